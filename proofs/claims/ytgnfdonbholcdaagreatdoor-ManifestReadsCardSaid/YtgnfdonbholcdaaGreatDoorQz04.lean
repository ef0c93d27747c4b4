/- Lemmas. -/
import Derived.Test.YtgnfdonbholcdaaGreatDoorQz03
namespace Go.Proofs.YtgnfdonbholcdaaGreatDoor
set_option linter.unusedVariables false
set_option maxRecDepth 100000
set_option maxHeartbeats 32000000
set_option linter.unusedSimpArgs false
open Go.RowKit
def GlobK5(w:World):Prop:=w.rangeAt 7 0 (ints .u64 (qs K512))
theorem GlobK5.ext {w a:World}(h:GlobK5 w)(b:Ext w a):GlobK5 a:=glob_ext h b
theorem GlobK5.cell {w:World}(h:GlobK5 w) {j:Nat}(a:j<80):w.cell? ⟨7,j,none⟩=some (.int .u64 (qi (K512.getD j 0#64))):=by
 have:=h j (.int .u64 (qi (K512.getD j 0#64))) (by rw[zas (by rw[zdd];exact a),qs_getD])
 simpa using this
theorem qTop_at(m:List UInt8)(s:Nat):∀k i,k≤i→i<80→(qTop m s k).getD i 0#64=0#64
 |0,i,_,h=>by
  rw[qTop,List.getD,List.getElem?_replicate,if_pos h]
  rfl
 |k+1,i,h,h2=>by
  rw[qTop]
  have:=qTop_at m s k i (by omega) h2
  simp only[List.getD,List.getElem?_set_ne (show k≠i by omega)]at this⊢
  exact this
theorem qTop_same(m:List UInt8)(s k:Nat)(h:k<80):(qTop m s k).set k (BitVec.ofNat 64 (beN m (s+8*k) 0))=qTop m s k:=by
 have e:=qTop_at m s k k (q101 _) h
 have b:=qTop_length m s k
 apply List.ext_getElem?
 intro i
 by_cases a:k=i
 ·subst a
  rw[List.getElem?_set_self (by omega)]
  simp only[List.getD]at e
  rw[List.getElem?_eq_getElem (by omega)]at e⊢
  simp only[Option.getD_some]at e
  rw[e]
  rfl
 rw[List.getElem?_set_ne a]
theorem outQ_getD(h:List Q64)(i:Nat)(a:i<64):(outQ h).getD i 0=UInt8.ofNat ((h.getD (i / 8) 0#64).toNat / 2^(56 - 8*(i%8))%256):=by
 unfold outQ
 simp[List.getD,a]
theorem and_q_255(a:Q64):bits .and .u64 (qi a) 255=((a.toNat%256:Nat):Int):=by
 have h:(255:Int)=qi 255#64:=rfl
 rw[h,qi_and]
 unfold qi
 rw[BitVec.toNat_and]
 have h2:(255#64).toNat=2^8 - 1:=by decide
 rw[h2,q142]
theorem rShb_any(v:Value)(b:List UInt8)(w:World)(hv:Row1 w v (b.map bval))(hb:b.length≤1099511627776)(hG:GlobK5 w):
  Calls Tryz.prog 118 #[v] w fun e S=>e=.returned (.agg ((sha512 b).map bval).toArray)∧Below w.heap.size w S:=by
 obtain⟨br,HG,HB,bf⟩:=jq4 hv hG (boxes2 w (ints .u8 (List.replicate 64 0)) (ints .u64 (List.replicate 8 0)) 26 185) hb
 clear hv hG hb
 go_enter Tryz.func118,Tryz.ntmps118
 go_wp2_with (refine ssb (w.heap.size+1) (ints .u64 (qs H512)) HB.o.2.1 rfl (by rw[zaa];exact Tryz.arr185) (zah _ _) ?_;intro w1 C ay)
 have g:=HB.o.1.grown ay (by simp)
 have f:=zab HB.o.2.2 ay (by omega)
 have d:=C
 obtain⟨A,hA⟩:=nxq w.heap.size
 rw[←hA]at g d⊢
 have e3:w.heap.size≤A:=by omega
 obtain⟨HP,g,d,f⟩:=jq4 (paddedQ_any v b w1 (br.o.below f) bf.o) g d f
 clear hA C ay HB
 refine HP.o.mono ?_
 rintro e w2 ⟨mv,rfl,ai,y⟩
 obtain⟨g,d⟩:=xq2 g d y
 have f:=xxt f y
 have a8:=paddedQ_length b
 obtain⟨m,hm⟩:=nxq (paddedQ b)
 obtain⟨N,hN⟩:=nxq ((b.length+144) / 128)
 obtain⟨HM,HN⟩:=jq2 hm hN
 rw[←hm]at ai a8
 rw[←hN]at a8
 have HR:=jh ai
 obtain⟨a,du,rfl,r1,r2,r3,r4⟩:=id ai
 rw[q100,a8]at r1 HR⊢
 unfold maxLen at r2
 obtain⟨b',off,rfl,ar,bp⟩:=r4 (by intro e;have h:=congrArg List.length e;rw[q100,a8]at h;simp only[q121]at h;omega)
 have bb:MsgAt w2.heap.size b' off m w2:=⟨ar,q101 _,fun j hj=>by rw[bp j (by rw[q100];exact hj),zbg hj]⟩
 have bn:b'≠A+1:=by
  rintro rfl
  have h1:=bb.2.2 0 (by omega)
  rw[d.o.cell]at h1
  exact(not_bytes (by decide)) h1
 obtain⟨cl,ce,aj⟩:=jq3 bn bb ar
 have dv:N≤17179869300:=by have:=bf.o;omega
 have c7:=jh a8
 clear y ai hm hN a8 r3 r4 HP br bb bp bn ar
 go_wp2_with fail
 go_loopw [5] (fun I wr=>∃(n:Nat),n≤N∧I=.int .i64 (128*(n:Int))∧Blk wr (A+1) (ints .u64 (qs (gRun m n))) 185∧Blk wr A (ints .u8 (List.replicate 64 0)) 26∧MsgAt w2.heap.size b' off m wr∧Ext w wr) (fun I _=>128*N - (intOf I).toNat)
 case atStart=>exact⟨0,by omega,rfl,d.o,g.o,ce.o,f.o⟩
 case round=>
  clear g d f
  obtain⟨n,hn,rfl,y,C,H,G⟩:=hrel
  have n0:(0:Int)≤128*(n:Int):=by omega
  by_cases dy:n<N
  ·have n1:128*(n:Int)<128*(N:Int):=by omega
   obtain⟨g,d,f,B⟩:=jq4 C y G H
   clear C y G H
   have HZ:=jh (Blk.made wr (ints .u64 (List.replicate 80 0)) 206)
   have dw:=d.o.lt
   obtain⟨g,d⟩:=jq2 (g.o.alloc (.cells (ints .u64 (List.replicate 80 0)).toArray 206)) (d.o.alloc (.cells (ints .u64 (List.replicate 80 0)).toArray 206))
   have c5:=B.o.2.1
   obtain⟨f,B⟩:=jq2 (f.o.trans (Ext.alloc wr (.cells (ints .u64 (List.replicate 80 0)).toArray 206))) (B.o.ext (Ext.alloc wr (.cells (ints .u64 (List.replicate 80 0)).toArray 206)))
   have dt:w2.heap.size≤wr.heap.size:=c5
   clear c5
   go_upto_region 7 with(fail)
   change Code.wp _ _ _ _ (wr.alloc (.cells (ints .u64 (List.replicate 80 0)).toArray 206))
   generalize wr.alloc (.cells (ints .u64 (List.replicate 80 0)).toArray 206)=w3 at*
   generalize wr.heap.size=D at*
   go_wp2_with fail
   go_loopw [7] (fun I wr=>∃(k:Nat),k≤16∧I=.int .i64 (k:Int)∧Blk wr D (ints .u64 (qs (qTop m (128*n) k))) 206∧Blk wr (A+1) (ints .u64 (qs (gRun m n))) 185∧Blk wr A (ints .u8 (List.replicate 64 0)) 26∧MsgAt w2.heap.size b' off m wr∧Ext w wr) (fun I _=>16 - (intOf I).toNat)
   case atStart=>exact⟨0,by omega,rfl,by rw[qTop,qs_zeros];exact HZ.o,d.o,g.o,B.o,f.o⟩
   case round=>
    clear g d f B HZ
    obtain⟨k,hk,rfl,K,y,C,H,G⟩:=hrel
    have k0:(0:Int)≤(k:Int):=Int.natCast_nonneg _
    have ab:=qTop_length m (128*n) k
    by_cases db:k<16
    ·have k1:(k:Int)<16:=by omega
     have dh:(k:Int)<80:=by omega
     obtain⟨p,hp⟩:=nxq (128*n+8*k)
     have dj:128*(n:Int)+8*(k:Int)=(p:Int):=by omega
     have dr:p+8≤128*N:=by omega
     have ad:Hid (qTop m (128*n) (k+1)=(qTop m (128*n) k).set k (beQ m p)):=jh (by rw[hp];rfl)
     have H0:Hid ((qTop m (128*n) k).set k (BitVec.ofNat 64 (beN m p 0))=qTop m (128*n) k):=jh (qTop_same m (128*n) k (by omega))
     have a9:Hid ((qTop m (128*n) k).length=80):=jh ab
     generalize qTop m (128*n) k=T0 at*
     obtain⟨J,g,d,f,B⟩:=jq5 K C y G H
     clear K C y G H ab hp
     go_wp2_with fail
     obtain⟨wo,rfl⟩:=nxq wr
     go_loopw [8] (fun I wr=>∃(j:Nat),j≤8∧I=.int .i64 (j:Int)∧Blk wr D (ints .u64 (qs (T0.set k (BitVec.ofNat 64 (beN m p j))))) 206∧Blk wr (A+1) (ints .u64 (qs (gRun m n))) 185∧Blk wr A (ints .u8 (List.replicate 64 0)) 26∧MsgAt w2.heap.size b' off m wr∧Ext w wr) (fun I _=>8 - (intOf I).toNat)
     case atStart=>exact⟨0,by omega,rfl,by rw[H0.o];exact J.o,d.o,g.o,B.o,f.o⟩
     case round=>
      clear J g d f B
      obtain⟨j,hj,rfl,K,y,C,H,G⟩:=hrel
      have j0:(0:Int)≤(j:Int):=Int.natCast_nonneg _
      by_cases aw:j<8
      ·have j1:(j:Int)<8:=by omega
       have d3:=beN_lt m p j
       have d8:256^j≤256^7:=Nat.pow_le_pow_right (by omega) (by omega)
       have h7:(256:Nat)^7=72057594037927936:=rfl
       have c0:=H.2.2 (p+j) (by rw[c7.o];omega)
       have d0:=UInt8.toNat_lt (m.getD (p+j) 0)
       have c8:Hid (beN m p (j+1)=256*beN m p j+(m.getD (p+j) 0).toNat):=jh rfl
       generalize (m.getD (p+j) 0).toNat=x0 at*
       generalize beN m p j=V at*
       have e4:V<72057594037927936:=by omega
       have e1:=K.cell k
       rw[zas (by rw[zdd,q125,a9.o];omega),qs_getD]at e1
       have e2:(T0.set k (BitVec.ofNat 64 V)).getD k 0#64=BitVec.ofNat 64 V:=by simp[List.getD,a9.o,(by omega:k<80)]
       rw[e2,qi_lit V (by omega)]at e1
       have f1:=K.free k
       have bj:bits .or .u64 ((V:Int)*256) (x0:Int)=qi (BitVec.ofNat 64 (beN m p (j+1))):=by
        have a1:(V:Int)*256=((256*V:Nat):Int):=by omega
        rw[a1,or64 _ _ (by omega) (by omega),c8.o,qi_lit _ (by omega)]
        exact congrArg _ (or_sum 8 x0 V (by omega))
       obtain⟨d4,J,g,d,f,B⟩:=jq6 bj K C y G H
       have pj:(p:Int)+(j:Int)<128*(N:Int):=by omega
       have dp:(0:Int)≤(p:Int):=Int.natCast_nonneg _
       clear K C y G H d3 d8 h7 e2 bj
       go_upto_region 13 with(fail)
       go_region
       go_wp2_with fail
       go_roundw
       case rel=>
        refine⟨j+1,by omega,by go_num,?_,(d.o.far (by simp<;>omega) _).drewN 1,(g.o.far (by simp<;>omega) _).drewN 1,(B.o.far (by have:=aj.o;simp;omega) _).drew,(Below.setCell f.o (by simp<;>omega) _).drew⟩
        have h:=(J.o.seti k (bits .or .u64 ((V:Int)*256) (x0:Int))).drewN 1
        rw[d4.o]at h⊢
        rw[qs_set,List.set_set]at h
        exact h
       case measure=>simp[intOf];omega
      have af:j=8:=by omega
      subst af
      obtain⟨J,g,d,f,B⟩:=jq5 K C y G H
      clear K C y G H
      go_wp2_with fail
      go_roundw
      case rel=>exact⟨k+1,by omega,by go_num,by rw[ad.o];exact J.o,d.o,g.o,B.o,f.o⟩
      case measure=>simp[intOf];omega
    have cb:k=16:=by omega
    have bx:(k:Int)=16:=by omega
    rw[bx]
    clear bx
    subst cb
    have bt:qTop m (128*n) 16=qSch m (128*n) 0:=rfl
    rw[bt]at K
    obtain⟨J,g,d,f,B⟩:=jq5 K C y G H
    clear K C y G H ab bt
    go_wp2_with fail
    obtain⟨wo,rfl⟩:=nxq wr
    go_loopw [9] (fun I wr=>∃(q:Nat),q≤64∧I=.int .i64 ((16+q:Nat):Int)∧Blk wr D (ints .u64 (qs (qSch m (128*n) q))) 206∧Blk wr (A+1) (ints .u64 (qs (gRun m n))) 185∧Blk wr A (ints .u8 (List.replicate 64 0)) 26∧MsgAt w2.heap.size b' off m wr∧Ext w wr) (fun I _=>80 - (intOf I).toNat)
    case atStart=>exact⟨0,by omega,rfl,J.o,d.o,g.o,B.o,f.o⟩
    case round=>
     clear g d f B J
     obtain⟨q,hq,rfl,K,y,C,H,G⟩:=hrel
     by_cases dg:q<64
     ·obtain⟨i,hi⟩:=nxq (16+q)
      rw[←hi]
      have i0:(16:Int)≤(i:Int):=by omega
      have i1:(i:Int)<80:=by omega
      have ab:=qSch_length m (128*n) q
      obtain⟨a2,c1⟩:=nxq (i - 16)
      obtain⟨ae,bq⟩:=nxq (i - 15)
      obtain⟨j7,bm⟩:=nxq (i - 7)
      obtain⟨j2,c2⟩:=nxq (i - 2)
      have dk:(i:Int) - 16=(a2:Int):=by omega
      have de:(i:Int) - 15=(ae:Int):=by omega
      have g7:(i:Int) - 7=(j7:Int):=by omega
      have g2:(i:Int) - 2=(j2:Int):=by omega
      have dq:(a2:Int)<80:=by omega
      have ds:(ae:Int)<80:=by omega
      have l7:(j7:Int)<80:=by omega
      have l2:(j2:Int)<80:=by omega
      have ct:=K.cell a2
      rw[zas (by rw[zdd];omega),qs_getD]at ct
      have cc:=K.cell ae
      rw[zas (by rw[zdd];omega),qs_getD]at cc
      have e7:=K.cell j7
      rw[zas (by rw[zdd];omega),qs_getD]at e7
      have e2:=K.cell j2
      rw[zas (by rw[zdd];omega),qs_getD]at e2
      have e0:=K.cell i
      rw[zas (by rw[zdd];omega),qs_getD]at e0
      have f0:=K.free i
      have ad:Hid (qSch m (128*n) (q+1)=(qSch m (128*n) q).set i ((qSch m (128*n) q).getD a2 0#64+tg0 ((qSch m (128*n) q).getD ae 0#64)+(qSch m (128*n) q).getD j7 0#64+tg1 ((qSch m (128*n) q).getD j2 0#64))):=jh (by rw[hi,c1,bq,bm,c2,hi];rfl)
      generalize (qSch m (128*n) q).getD a2 0#64=c3 at*
      generalize (qSch m (128*n) q).getD ae 0#64=a6 at*
      generalize (qSch m (128*n) q).getD j7 0#64=y7 at*
      generalize (qSch m (128*n) q).getD j2 0#64=y2 at*
      generalize (qSch m (128*n) q).getD i 0#64=y0 at*
      obtain⟨J,g,d,f,B,HI⟩:=jq6 K C y G H hi
      clear K C y G H ab hi c1 bq bm c2 hq
      go_wp2_with fail
      have cw:IntKind.i64.wrap (a2:Int)=(a2:Int):=IntWalk.i64_in _ (by omega)
      have w7:IntKind.i64.wrap (j7:Int)=(j7:Int):=IntWalk.i64_in _ (by omega)
      have z16:(0:Int)≤(a2:Int):=Int.natCast_nonneg _
      have z7:(0:Int)≤(j7:Int):=Int.natCast_nonneg _
      go_still_tail 29,(by kernel_rfl)
      still_call ((rot_any _ 1 (by omega) _).mono fun _ _ h=>⟨h.1,h.2.symm⟩)
      repeat still_step
      still_call ((rot_any _ 8 (by omega) _).mono fun _ _ h=>⟨h.1,h.2.symm⟩)
      repeat still_step
      still_call ((rot_any _ 19 (by omega) _).mono fun _ _ h=>⟨h.1,h.2.symm⟩)
      repeat still_step
      still_call ((rot_any _ 61 (by omega) _).mono fun _ _ h=>⟨h.1,h.2.symm⟩)
      repeat still_step
      try refine wpStill_nil ?_
      change wpList _ _ _ _ _ wr.drew
      have dx:(wr.drew).cell? ⟨D,i,none⟩=some (.int .u64 (qi y0)):=e0
      have dz:(wr.drew).frozen? ⟨D,i,none⟩=false:=f0
      have J:Hid (Blk wr.drew D _ _):=jh J.o
      have g:Hid (Blk wr.drew A _ _):=jh g.o
      have d:Hid (Blk wr.drew (A+1) _ _):=jh d.o
      have f:Hid (Ext w wr.drew):=jh (f.o.trans (Ext.drew wr))
      have B:Hid (MsgAt w2.heap.size b' off m wr.drew):=jh (B.o.ext (Ext.drew wr))
      clear e0 f0
      generalize wr.drew=w4 at*
      have z0:(0:Int)≤(i:Int):=by omega
      have x1:bits .xor .u64 (bits .xor .u64 (qi (rotq a6 1)) (qi (rotq a6 8))) (qi a6 / 128)=qi (tg0 a6):=by rw[show (128:Int)=2^7 from rfl,qi_shr,qi_xor,qi_xor];rfl
      have x2:bits .xor .u64 (bits .xor .u64 (qi (rotq y2 19)) (qi (rotq y2 61))) (qi y2 / 64)=qi (tg1 y2):=by rw[show (64:Int)=2^6 from rfl,qi_shr,qi_xor,qi_xor];rfl
      obtain⟨cg,ck⟩:=jq2 x1 x2
      clear x1 x2 cw w7 z16 z7
      have d1:Hid (IntKind.u64.wrap (IntKind.u64.wrap (IntKind.u64.wrap (qi c3+qi (tg0 a6))+qi y7)+qi (tg1 y2))=qi (c3+tg0 a6+y7+tg1 y2)):=jh (by rw[qi_add,qi_add,qi_add])
      rw[cg.o,ck.o]
      go_wp2_with fail
      go_roundw
      case rel=>
       refine⟨q+1,by omega,by have:=HI.o;subst this;go_num,?_,d.o.far (by simp<;>omega) _,g.o.far (by simp<;>omega) _,B.o.far (by have:=aj.o;simp;omega) _,Below.setCell f.o (by simp<;>omega) _⟩
       rw[ad.o,←qs_set,←d1.o]
       exact J.o.seti i _
      case measure=>simp[intOf];omega
     have ci:q=64:=by omega
     subst ci
     obtain⟨J,g,d,f,B⟩:=jq5 K C y G H
     have cu:Hid (gRun m (n+1)=qAdd (gRun m n) (qRun (gRun m n) (qSch m (128*n) 64) 80) 8):=jh rfl
     obtain⟨ah,cz⟩:=jq2 (gRun_length m n) (qSch_length m (128*n) 64)
     clear K y C H G
     generalize qSch m (128*n) 64=W at*
     generalize gRun m n=h at*
     have be:Hid ((Tryz.prog.info? 185).map (·.size)=some (ints .u64 (qs h)).length):=jh (by rw[zaa,zdd,ah.o];exact Tryz.arr185)
     obtain⟨bl,a9,ag,a5,K1,K2⟩:=jq6 (Blk.made wr (ints .u64 (List.replicate 8 0)) 185) J.o.lt g.o.lt d.o.lt (g.o.alloc (.cells (ints .u64 (List.replicate 8 0)).toArray 185)) (d.o.alloc (.cells (ints .u64 (List.replicate 8 0)).toArray 185))
     obtain⟨KW,HS,bk,KE,c4⟩:=jq5 (J.o.alloc (.cells (ints .u64 (List.replicate 8 0)).toArray 185)) f.o.size B.o.2.1 (f.o.trans (Ext.alloc wr (.cells (ints .u64 (List.replicate 8 0)).toArray 185))) (B.o.ext (Ext.alloc wr (.cells (ints .u64 (List.replicate 8 0)).toArray 185)))
     have bg:Hid ((ints .u64 (qs h)).length=(ints .u64 (List.replicate 8 0)).length):=jh (by rw[zaa,zdd,ah.o,zaa,q112])
     go_upto_region 21 with(first|(refine slb (A+1) d.o q163 be.o ?_)|(refine ssb wr.heap.size (ints .u64 (qs h)) bl.o bg.o be.o (zah _ _) ?_;intro wq bu a7))
     have g:=jh (K1.o.grown a7 (by have:=ag.o;simp;omega))
     have d:=jh (K2.o.grown a7 (by have:=a5.o;simp;omega))
     have J:=jh (KW.o.grown a7 (by have:=a9.o;simp;omega))
     have f:=jh (zab KE.o a7 HS.o)
     have B:=jh (c4.o.grown a7 (by have:=aj.o;have:=bk.o;simp;omega))
     have L:=jh bu
     have cs:Hid (D<wr.heap.size):=a9
     have ak:Hid (A+1<wr.heap.size):=a5
     generalize wr.heap.size=E at*
     clear bu a7 bl ag a5 K1 K2 KW KE c4 bg HS
     go_wp2_with fail
     obtain⟨wo,rfl⟩:=nxq wq
     go_loopw [13] (fun I wr=>∃(k:Nat),k≤80∧I=.int .i64 (k:Int)∧Blk wr E (ints .u64 (qs (qRun h W k))) 185∧Blk wr D (ints .u64 (qs W)) 206∧Blk wr (A+1) (ints .u64 (qs h)) 185∧Blk wr A (ints .u8 (List.replicate 64 0)) 26∧MsgAt w2.heap.size b' off m wr∧Ext w wr) (fun I _=>80 - (intOf I).toNat)
     case atStart=>exact⟨0,by omega,rfl,L.o,J.o,d.o,g.o,B.o,f.o⟩
     case round=>
      clear L J g d f B
      obtain⟨k,hk,rfl,a4,K,y,C,H,G⟩:=hrel
      obtain⟨L,J,g,d,f,B⟩:=jq6 a4 K C y G H
      have Z:=jh (qRun_length h W ah.o k)
      have k0:(0:Int)≤(k:Int):=Int.natCast_nonneg _
      clear a4 K y C H G
      by_cases c6:k<80
      ·have kr:(k:Int)<80:=by omega
       have d5:Hid (∀S,Blk S D (ints .u64 (qs W)) 206→S.cell? ⟨D,k,none⟩=some (.int .u64 (qi (W.getD k 0#64)))):=jh (fun S h=>blk_q h (by rw[cz.o];exact c6))
       have d2:Hid (∀S,Ext wr S→S.cell? ⟨7,k,none⟩=some (.int .u64 (qi (K512.getD k 0#64)))):=jh (fun S h=>(HG.o.ext (f.o.trans h)).cell c6)
       have Y:Hid (qRun h W (k+1)=rndq (qRun h W k) (K512.getD k 0#64) (W.getD k 0#64)):=jh rfl
       unfold rndq at Y
       generalize K512.getD k 0#64=kk at*
       generalize W.getD k 0#64=wk at*
       generalize qRun h W k=O at*
       have U:Hid (∀j,j<8→∀S,Blk S E (ints .u64 (qs O)) 185→∀x,x=O.getD j 0#64→S.cell? ⟨E,j,none⟩=some (.int .u64 (qi x))):=jh (fun j hj S hb x hx=>by rw[hx];exact blk_q hb (by rw[Z.o];exact hj))
       have a0:=L.o
       have V:=blk_q a0 (j:=0) (by rw[Z.o];omega)
       have b1:=blk_q a0 (j:=1) (by rw[Z.o];omega)
       have b2:=blk_q a0 (j:=2) (by rw[Z.o];omega)
       have b3:=blk_q a0 (j:=3) (by rw[Z.o];omega)
       have b4:=blk_q a0 (j:=4) (by rw[Z.o];omega)
       have b5:=blk_q a0 (j:=5) (by rw[Z.o];omega)
       have b6:=blk_q a0 (j:=6) (by rw[Z.o];omega)
       have b7:=blk_q a0 (j:=7) (by rw[Z.o];omega)
       obtain⟨l,bd⟩:=nxq (O.getD 0 0#64)
       have dl:=jh bd
       rw[←bd]at V Y
       clear bd
       obtain⟨P,bc⟩:=nxq (O.getD 1 0#64)
       have au:=jh bc
       rw[←bc]at b1 Y
       clear bc
       obtain⟨Q,aq⟩:=nxq (O.getD 2 0#64)
       have b9:=jh aq
       rw[←aq]at b2 Y
       clear aq
       obtain⟨v3,az⟩:=nxq (O.getD 3 0#64)
       have cr:=jh az
       rw[←az]at b3 Y
       clear az
       obtain⟨c,ap⟩:=nxq (O.getD 4 0#64)
       have da:=jh ap
       rw[←ap]at b4 Y
       clear ap
       obtain⟨T,am⟩:=nxq (O.getD 5 0#64)
       have bw:=jh am
       rw[←am]at b5 Y
       clear am
       obtain⟨X,an⟩:=nxq (O.getD 6 0#64)
       have bs:=jh an
       rw[←an]at b6 Y
       clear an
       obtain⟨v7,av⟩:=nxq (O.getD 7 0#64)
       have cf:=jh av
       rw[←av]at b7 Y
       clear av
       clear a0
       go_wp2_with fail
       refine zcv (by kernel_rfl) (by kernel_rfl) ?_
       refine sdi E 8 7 q163 (by omega) (q157) ?_
       simp only[nm]
       refine sdl E 7 (.int .u64 (qi v7)) (fun w M=>U.o 7 (by omega) _ (zak L.o M) _ cf.o) (q158) ?_
       simp only[nm]
       refine zbj _ (.int .u64 (qi c)) (by rfl) rfl rfl ?_
       simp only[nm]
       refine sdc [.int .u64 (qi c),.int .u64 14] (.int .u64 (qi (rotq c 14))) Tryz.call160 (fun w M=>rot_ext c 14 (by omega) w) ?_
       simp only[nm]
       refine zbj _ (.int .u64 (qi c)) (by rfl) rfl rfl ?_
       simp only[nm]
       refine sdc [.int .u64 (qi c),.int .u64 18] (.int .u64 (qi (rotq c 18))) Tryz.call160 (fun w M=>rot_ext c 18 (by omega) w) ?_
       simp only[nm]
       refine zei _ _ _ _ _ _ _ (qi ((rotq c 14)^^^(rotq c 18))) (by rfl) rfl rfl rfl (qi_xor _ _) ?_
       simp only[nm]
       refine zbj _ (.int .u64 (qi c)) (by rfl) rfl rfl ?_
       simp only[nm]
       refine sdc [.int .u64 (qi c),.int .u64 41] (.int .u64 (qi (rotq c 41))) Tryz.call160 (fun w M=>rot_ext c 41 (by omega) w) ?_
       simp only[nm]
       refine zei _ _ _ _ _ _ _ (qi (((rotq c 14)^^^(rotq c 18))^^^(rotq c 41))) (by rfl) rfl rfl rfl (qi_xor _ _) ?_
       simp only[nm]
       refine zeu _ _ _ _ _ _ _ (qi (v7+(((rotq c 14)^^^(rotq c 18))^^^(rotq c 41)))) (by rfl) rfl rfl rfl (qi_add _ _) ?_
       simp only[nm]
       refine zbj _ (.int .u64 (qi c)) (by rfl) rfl rfl ?_
       simp only[nm]
       refine sdi E 8 5 q163 (by omega) (q157) ?_
       simp only[nm]
       refine sdl E 5 (.int .u64 (qi T)) (fun w M=>U.o 5 (by omega) _ (zak L.o M) _ bw.o) (q158) ?_
       simp only[nm]
       refine det_and _ _ _ _ _ _ _ (qi (c &&& T)) (by rfl) rfl rfl rfl (qi_and _ _) ?_
       simp only[nm]
       refine zbj _ (.int .u64 (qi c)) (by rfl) rfl rfl ?_
       simp only[nm]
       refine det_qinot _ _ c (by rfl) rfl rfl ?_
       simp only[nm]
       refine sdi E 8 6 q163 (by omega) (q157) ?_
       simp only[nm]
       refine sdl E 6 (.int .u64 (qi X)) (fun w M=>U.o 6 (by omega) _ (zak L.o M) _ bs.o) (q158) ?_
       simp only[nm]
       refine det_and _ _ _ _ _ _ _ (qi ((~~~c) &&& X)) (by rfl) rfl rfl rfl (qi_and _ _) ?_
       simp only[nm]
       refine zei _ _ _ _ _ _ _ (qi ((c &&& T)^^^((~~~c) &&& X))) (by rfl) rfl rfl rfl (qi_xor _ _) ?_
       simp only[nm]
       refine zeu _ _ _ _ _ _ _ (qi ((v7+(((rotq c 14)^^^(rotq c 18))^^^(rotq c 41)))+((c &&& T)^^^((~~~c) &&& X)))) (by rfl) rfl rfl rfl (qi_add _ _) ?_
       simp only[nm]
       refine zbj _ (.int .i64 ((k:Nat):Int)) (by rfl) rfl rfl ?_
       simp only[nm]
       refine sdi 7 80 k Tryz.underlying206 (by omega) (q157) ?_
       simp only[nm]
       refine sdl 7 k (.int .u64 (qi kk)) (fun w M=>d2.o _ M) (q158) ?_
       simp only[nm]
       refine zeu _ _ _ _ _ _ _ (qi (((v7+(((rotq c 14)^^^(rotq c 18))^^^(rotq c 41)))+((c &&& T)^^^((~~~c) &&& X)))+kk)) (by rfl) rfl rfl rfl (qi_add _ _) ?_
       simp only[nm]
       refine zbj _ (.int .i64 ((k:Nat):Int)) (by rfl) rfl rfl ?_
       simp only[nm]
       refine sdi D 80 k Tryz.underlying206 (by omega) (q157) ?_
       simp only[nm]
       refine sdl D k (.int .u64 (qi wk)) (fun w M=>d5.o _ (zak J.o M)) (q158) ?_
       simp only[nm]
       refine zeu _ _ _ _ _ _ _ (qi ((((v7+(((rotq c 14)^^^(rotq c 18))^^^(rotq c 41)))+((c &&& T)^^^((~~~c) &&& X)))+kk)+wk)) (by rfl) rfl rfl rfl (qi_add _ _) ?_
       simp only[nm]
       refine zcf _ (.int .u64 (qi ((((v7+(((rotq c 14)^^^(rotq c 18))^^^(rotq c 41)))+((c &&& T)^^^((~~~c) &&& X)))+kk)+wk))) (by rfl) rfl rfl ?_
       simp only[nm]
       refine det_nil (fun wx hx=>?_)
       obtain⟨L,J,g,d⟩:=xq4 L J g d hx
       have B:=jh (B.o.ext hx)
       have f:=xxt f hx
       clear hx
       generalize ht:(((v7+(((rotq c 14)^^^(rotq c 18))^^^(rotq c 41)))+((c &&& T)^^^((~~~c) &&& X)))+kk)+wk=t at*
       have HT:=jh ht
       clear ht
       go_wp2_with fail
       refine zcv (by kernel_rfl) (by kernel_rfl) ?_
       refine zbj _ (.int .u64 (qi l)) (by rfl) rfl rfl ?_
       simp only[nm]
       refine sdc [.int .u64 (qi l),.int .u64 28] (.int .u64 (qi (rotq l 28))) Tryz.call160 (fun w M=>rot_ext l 28 (by omega) w) ?_
       simp only[nm]
       refine zbj _ (.int .u64 (qi l)) (by rfl) rfl rfl ?_
       simp only[nm]
       refine sdc [.int .u64 (qi l),.int .u64 34] (.int .u64 (qi (rotq l 34))) Tryz.call160 (fun w M=>rot_ext l 34 (by omega) w) ?_
       simp only[nm]
       refine zei _ _ _ _ _ _ _ (qi ((rotq l 28)^^^(rotq l 34))) (by rfl) rfl rfl rfl (qi_xor _ _) ?_
       simp only[nm]
       refine zbj _ (.int .u64 (qi l)) (by rfl) rfl rfl ?_
       simp only[nm]
       refine sdc [.int .u64 (qi l),.int .u64 39] (.int .u64 (qi (rotq l 39))) Tryz.call160 (fun w M=>rot_ext l 39 (by omega) w) ?_
       simp only[nm]
       refine zei _ _ _ _ _ _ _ (qi (((rotq l 28)^^^(rotq l 34))^^^(rotq l 39))) (by rfl) rfl rfl rfl (qi_xor _ _) ?_
       simp only[nm]
       refine zbj _ (.int .u64 (qi l)) (by rfl) rfl rfl ?_
       simp only[nm]
       refine sdi E 8 1 q163 (by omega) (q157) ?_
       simp only[nm]
       refine sdl E 1 (.int .u64 (qi P)) (fun w M=>U.o 1 (by omega) _ (zak L.o M) _ au.o) (q158) ?_
       simp only[nm]
       refine det_and _ _ _ _ _ _ _ (qi (l &&& P)) (by rfl) rfl rfl rfl (qi_and _ _) ?_
       simp only[nm]
       refine zbj _ (.int .u64 (qi l)) (by rfl) rfl rfl ?_
       simp only[nm]
       refine sdi E 8 2 q163 (by omega) (q157) ?_
       simp only[nm]
       refine sdl E 2 (.int .u64 (qi Q)) (fun w M=>U.o 2 (by omega) _ (zak L.o M) _ b9.o) (q158) ?_
       simp only[nm]
       refine det_and _ _ _ _ _ _ _ (qi (l &&& Q)) (by rfl) rfl rfl rfl (qi_and _ _) ?_
       simp only[nm]
       refine zei _ _ _ _ _ _ _ (qi ((l &&& P)^^^(l &&& Q))) (by rfl) rfl rfl rfl (qi_xor _ _) ?_
       simp only[nm]
       refine sdi E 8 1 q163 (by omega) (q157) ?_
       simp only[nm]
       refine sdl E 1 (.int .u64 (qi P)) (fun w M=>U.o 1 (by omega) _ (zak L.o M) _ au.o) (q158) ?_
       simp only[nm]
       refine sdi E 8 2 q163 (by omega) (q157) ?_
       simp only[nm]
       refine sdl E 2 (.int .u64 (qi Q)) (fun w M=>U.o 2 (by omega) _ (zak L.o M) _ b9.o) (q158) ?_
       simp only[nm]
       refine det_and _ _ _ _ _ _ _ (qi (P &&& Q)) (by rfl) rfl rfl rfl (qi_and _ _) ?_
       simp only[nm]
       refine zei _ _ _ _ _ _ _ (qi (((l &&& P)^^^(l &&& Q))^^^(P &&& Q))) (by rfl) rfl rfl rfl (qi_xor _ _) ?_
       simp only[nm]
       refine zeu _ _ _ _ _ _ _ (qi ((((rotq l 28)^^^(rotq l 34))^^^(rotq l 39))+(((l &&& P)^^^(l &&& Q))^^^(P &&& Q)))) (by rfl) rfl rfl rfl (qi_add _ _) ?_
       simp only[nm]
       refine zcf _ (.int .u64 (qi ((((rotq l 28)^^^(rotq l 34))^^^(rotq l 39))+(((l &&& P)^^^(l &&& Q))^^^(P &&& Q))))) (by rfl) rfl rfl ?_
       simp only[nm]
       refine det_nil (fun wy hy=>?_)
       obtain⟨L,J,g,d⟩:=xq4 L J g d hy
       have B:=jh (B.o.ext hy)
       have f:=xxt f hy
       clear hy
       generalize hu:(((rotq l 28)^^^(rotq l 34))^^^(rotq l 39))+(((l &&& P)^^^(l &&& Q))^^^(P &&& Q))=u at*
       have HU:=jh hu
       clear hu
       clear V b1 b2 b3 b4 b5 b6 b7
       have b1:=U.o 1 (by omega) _ L.o _ au.o
       have b2:=U.o 2 (by omega) _ L.o _ b9.o
       have b3:=U.o 3 (by omega) _ L.o _ cr.o
       have b5:=U.o 5 (by omega) _ L.o _ bw.o
       have b6:=U.o 6 (by omega) _ L.o _ bs.o
       have q7:(qi t+qi u)%18446744073709551616=qi (t+u):=by rw[←qi_add,IntKind.wrap_u64]
       have q8:(qi v3+qi t)%18446744073709551616=qi (v3+t):=by rw[←qi_add,IntKind.wrap_u64]
       have c9:Hid (qRun h W (k+1)=[t+u,l,P,Q,v3+t,c,T,X]):=jh (by rw[Y.o,←HT.o,←HU.o])
       clear Y
       have cx:Hid ((ints .u64 (qs [t+u,l,P,Q,v3+t,c,T,X])).length=(ints .u64 (qs O)).length):=jh (by rw[zaa,zdd,zaa,zdd,Z.o];rfl)
       have ca:Hid ((Tryz.prog.info? 185).map (·.size)=some (ints .u64 (qs [t+u,l,P,Q,v3+t,c,T,X])).length):=jh Tryz.arr185
       go_wp2_with (refine ssb E (ints .u64 (qs [t+u,l,P,Q,v3+t,c,T,X])) L.o cx.o ca.o (zah _ _) ?_;intro wz cq aa)
       go_roundw
       case rel=>exact⟨k+1,by omega,by go_num,by rw[c9.o];exact cq,J.o.grown aa (by have:=cs.o;simp;omega),d.o.grown aa (by have:=ak.o;simp;omega),g.o.grown aa (by have:=ak.o;simp;omega),B.o.grown aa (by have:=aj.o;have:=bk.o;simp;omega),zab f.o aa (by have:=ak.o;omega)⟩
       case measure=>simp[intOf];omega
      have cy:k=80:=by omega
      have bh:(k:Int)=80:=by omega
      rw[bh]
      clear bh
      subst cy
      generalize qRun h W 80=O at*
      go_wp2_with fail
      obtain⟨dn,rfl⟩:=nxq wr
      go_loopw [18] (fun I wr=>∃(j:Nat),j≤8∧I=.int .i64 (j:Int)∧Blk wr E (ints .u64 (qs O)) 185∧Blk wr (A+1) (ints .u64 (qs (qAdd h O j))) 185∧Blk wr A (ints .u8 (List.replicate 64 0)) 26∧MsgAt w2.heap.size b' off m wr∧Ext w wr) (fun I _=>8 - (intOf I).toNat)
      case atStart=>exact⟨0,by omega,rfl,L.o,d.o,g.o,B.o,f.o⟩
      case round=>
       clear L d g B f
       obtain⟨j,hj,rfl,a4,y,C,H,G⟩:=hrel
       have j0:(0:Int)≤(j:Int):=Int.natCast_nonneg _
       by_cases aw:j<8
       ·have j1:(j:Int)<8:=by omega
        have e1:=blk_q y (j:=j) (by rw[qAdd_length,ah.o];exact aw)
        have e2:=blk_q a4 (j:=j) (by rw[Z.o];exact aw)
        have f1:=y.free j
        have ad:Hid (qs (qAdd h O (j+1))=(qs (qAdd h O j)).set j (qi ((qAdd h O j).getD j 0#64+O.getD j 0#64))):=jh (by rw[qs_set,qAdd])
        generalize (qAdd h O j).getD j 0#64=p1 at*
        generalize O.getD j 0#64=p2 at*
        have q1:(qi p1+qi p2)%18446744073709551616=qi (p1+p2):=by rw[←qi_add,IntKind.wrap_u64]
        obtain⟨cn,L,g,d,f,B⟩:=jq6 q1 a4 C y G H
        clear a4 C y G H q1
        go_wp2_with fail
        go_region
        go_wp2_with fail
        go_roundw
        case rel=>
         refine⟨j+1,by omega,by go_num,(L.o.far (by have:=ak.o;simp;omega) _).drewN 1,?_,(g.o.far (by simp<;>omega) _).drewN 1,(B.o.far (by have:=cl.o;simp;omega) _).drew,(Below.setCell f.o (by simp<;>omega) _).drew⟩
         rw[ad.o,←cn.o]
         exact(d.o.seti j _).drewN 1
        case measure=>simp[intOf];omega
       have af:j=8:=by omega
       subst af
       rw[←cu.o]at y
       obtain⟨g,d,f,B⟩:=jq4 C y G H
       clear a4 C y G H
       go_wp2_with fail
       go_roundw
       case rel=>exact⟨n+1,by omega,by rw[show 128*(n:Int)+128=128*((n+1:Nat):Int)from by omega],d.o,g.o,B.o,f.o⟩
       case measure=>simp[intOf];omega
  have cv:n=N:=by omega
  have bz:(128:Int)*(n:Int)=128*(N:Int):=by omega
  rw[bz]
  clear bz
  have bi:Hid (outQ (gRun m N)=sha512 b):=jh (by rw[HM.o,HN.o];rfl)
  subst cv
  have cm:=jh (gRun_length m n)
  generalize gRun m n=R at*
  obtain⟨bv,ag,a5,K1,K2,HS⟩:=jq6 (Blk.made wr (ints .u8 (List.replicate 64 0)) 26) C.lt y.lt (C.alloc (.cells (ints .u8 (List.replicate 64 0)).toArray 26)) (y.alloc (.cells (ints .u8 (List.replicate 64 0)).toArray 26)) G.size
  have KE:=jh (G.trans (Ext.alloc wr (.cells (ints .u8 (List.replicate 64 0)).toArray 26)))
  clear C y G H
  go_upto_region 34 with(fail)
  change Code.wp _ _ _ _ (wr.alloc (.cells (ints .u8 (List.replicate 64 0)).toArray 26))
  generalize wr.alloc (.cells (ints .u8 (List.replicate 64 0)).toArray 26)=wf at*
  have ax:Hid (A+1<wr.heap.size):=a5
  generalize wr.heap.size=F at*
  obtain⟨o,ho⟩:=nxq (outQ R)
  have ac:Hid (o.length=64):=jh (by rw[ho,outQ_length])
  have co:=jh ho
  have cj:Hid (o=sha512 b):=jh (by rw[ho];exact bi.o)
  clear ho bi ag a5
  go_wp2_with fail
  go_loopw [20] (fun I wr=>∃(j:Nat),j≤64∧I=.int .i64 (j:Int)∧Blk wr F ((fill 64 o j).map bval) 26∧Blk wr (A+1) (ints .u64 (qs R)) 185∧Blk wr A (ints .u8 (List.replicate 64 0)) 26∧Ext w wr) (fun I _=>64 - (intOf I).toNat)
  case atStart=>exact⟨0,by omega,rfl,by rw[fill_start];exact bv.o,K2.o,K1.o,KE.o⟩
  case round=>
   clear bv K2 K1 KE
   obtain⟨j,hj,rfl,a3,y,C,G⟩:=hrel
   have j0:(0:Int)≤(j:Int):=Int.natCast_nonneg _
   by_cases ba:j<64
   ·have j1:(j:Int)<64:=by omega
    obtain⟨q,hq⟩:=nxq (j / 8)
    obtain⟨r,hr⟩:=nxq (j%8)
    obtain⟨s,hs⟩:=nxq (56 - 8*r)
    have dc:(j:Int) / 8=(q:Int):=by omega
    have dm:(j:Int)%8=(r:Int):=by omega
    have di:56 - 8*(r:Int)=(s:Int):=by omega
    have dd:(q:Int)<8:=by omega
    have q0:(0:Int)≤(q:Int):=Int.natCast_nonneg _
    have r0:(0:Int)≤(r:Int):=Int.natCast_nonneg _
    have r4:(r:Int)<8:=by omega
    have s0:(0:Int)≤(s:Int):=Int.natCast_nonneg _
    have df:(s:Int)≤56:=by omega
    have e1:=blk_q y (j:=q) (by rw[cm.o];omega)
    have b8:=outQ_getD R j ba
    rw[←hq,←hr,←hs,←co.o]at b8
    generalize R.getD q 0#64=x at*
    have d9:=qi_range x
    have e2:=a3.cell j
    rw[zbg (by rw[zeh ac.o (by omega)];exact ba)]at e2
    have f2:=a3.free j
    have ao:∀z:Int,z=((o.getD j 0).toNat:Int)→_:=fun z hz=>zdg ac.o ba hz
    have ao:=jh ao
    have bo:bits .and .u64 (qi x / 2^s) 255%256=((o.getD j 0).toNat:Int):=by
     rw[b8,UInt8.toNat_ofNat',qi_shr,and_q_255]
     rw[BitVec.toNat_ushiftRight,Nat.shiftRight_eq_div_pow]
     omega
    obtain⟨d7,HF,g,d,f⟩:=jq5 bo a3 C y G
    clear a3 C y G b8 bo hq hr hs
    generalize ((fill 64 o j).getD j 0)=z2 at*
    generalize qi x=zx at*
    go_wp2_with fail
    go_roundw
    case rel=>
     refine⟨j+1,by omega,by go_num,?_,d.o.far (by have:=ax.o;simp;omega) _,g.o.far (by have:=ax.o;simp;omega) _,Below.setCell f.o (by have:=ax.o;simp;omega) _⟩
     rw[←ao.o _ d7.o]
     exact HF.o.set j _
    case measure=>simp[intOf];omega
   have af:j=64:=by omega
   subst af
   rw[fill_full ac.o]at a3
   obtain⟨g,HF,f⟩:=jq3 C a3 G
   clear a3 C y G
   have al:Hid ((Tryz.prog.info? 26).map (·.size)=some (o.map bval).length):=jh (zep ac.o)
   have cd:Hid ((o.map bval).length=(ints .u8 (List.replicate 64 0)).length):=jh (by rw[q100,ac.o,zaa,q112])
   go_wp2_with (first|(refine slb F HF.o q126 al.o ?_)|(refine ssb A (o.map bval) g.o cd.o al.o (zac _) ?_;intro w7 cp d6))
   refine bodyPost_ret (zam rfl _ A _ _ _ _ rfl cp q126 al.o) rfl ?_
   exact⟨by rw[cj.o],zab f.o d6 (by omega)⟩
end Go.Proofs.YtgnfdonbholcdaaGreatDoor


