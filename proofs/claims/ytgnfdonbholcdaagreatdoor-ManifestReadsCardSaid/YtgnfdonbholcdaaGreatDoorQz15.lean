/- Lemmas. -/
import Derived.Test.YtgnfdonbholcdaaGreatDoorQz14
namespace Go.Proofs.YtgnfdonbholcdaaGreatDoor
set_option linter.unusedVariables false
set_option maxRecDepth 100000
set_option maxHeartbeats 32000000
set_option linter.unusedSimpArgs false
open Go.RowKit
theorem start_any(w:World):Calls Tryz.prog 63 #[] w fun e a=>e=.returned (.agg (ints .u32 (ws H256)).toArray)∧Below w.heap.size w a:=by
 obtain⟨d,b⟩:=jq2 (Blk.made w (ints .u32 (List.replicate 8 0)) 102) (Ext.alloc w (.cells (ints .u32 (List.replicate 8 0)).toArray 102))
 go_enter Tryz.func63,Tryz.ntmps63
 go_wp2_with (refine ssb w.heap.size (ints .u32 (ws H256)) d.o rfl Tryz.arr102 (zah _ _) ?_;intro g c f)
 refine bodyPost_ret (zam rfl _ w.heap.size _ _ _ _ rfl c q131 Tryz.arr102) rfl ?_
 exact⟨rfl,zab b.o f (q101 _)⟩
theorem build_block(w:World):(Instr.build 107 #[]).run Tryz.prog w=.ok (.agg ((List.replicate 64 (0:UInt8)).map bval).toArray) w:=by
 simp[Instr.build,Tryz.zeroValue107]
 rfl
theorem sha_numOf_any(h:List W32)(m:h.length=8)(w:World):Calls Tryz.prog 67 #[.agg (ints .u32 (ws h)).toArray] w fun e x=>e=.returned (.agg ((outB h).map bval).toArray)∧Below w.heap.size w x:=by
 obtain⟨t,r⟩:=jq2 m (boxes3u w (ints .u32 (ws h)) (ints .u8 (List.replicate 32 0)) (ints .u8 (List.replicate 32 0)) 102 23 23)
 have F:Hid ((Tryz.prog.info? 102).map (·.size)=some (ints .u32 (ws h)).length):=jh (by rw[zaa,zaw,m];exact Tryz.arr102)
 clear m
 go_enter Tryz.func67,Tryz.ntmps67
 go_upto_region 2 with(fail)
 obtain⟨d,a,c,b⟩:=r.o
 change Code.wp _ _ _ _ (((w.alloc (.cells (ints .u32 (ws h)).toArray 102)).alloc (.cells (ints .u8 (List.replicate 32 0)).toArray 23)).alloc (.cells (ints .u8 (List.replicate 32 0)).toArray 23))
 generalize (((w.alloc (.cells (ints .u32 (ws h)).toArray 102)).alloc (.cells (ints .u8 (List.replicate 32 0)).toArray 23)).alloc (.cells (ints .u8 (List.replicate 32 0)).toArray 23))=D at*
 obtain⟨A,u⟩:=nxq w.heap.size
 rw[←u]at d a c⊢
 have M:w.heap.size≤A:=by omega
 obtain⟨d,a,c⟩:=jq3 d a c
 have b:Hid (Ext w D):=jh b
 clear u r
 go_wp2_with (refine slb A d.o q131 F.o ?_)
 go_loopw [7] (fun n wr=>∃(k:Nat),k≤8∧n=.int .i64 (k:Int)∧Blk wr (A+1) (ints .u8 (List.replicate 32 0)) 23∧Blk wr (A+1+1) ((outK h k).map bval) 23∧Ext w wr) (fun n _=>8 - (intOf n).toNat)
 case atStart=>exact⟨0,by omega,rfl,a.o,c.o,b.o⟩
 case round=>
  clear d a c b
  obtain⟨k,N,rfl,i,f,g⟩:=hrel
  have L:(0:Int)≤(k:Int):=Int.natCast_nonneg _
  by_cases I:k<8
  ·have K:(k:Int)<8:=by omega
   have C:=index_words q131 q127 q128 h t.o k I
   have v:=cut_arr q102 zcd q111 wr (A+1+1) (4*k) (by omega)
   have s:((4*k:Nat):Int)=4*(k:Int):=by omega
   rw[s]at v
   have q:=jh (put_any (A+1+1) (4*k) (32 - 4*k) (32 - 4*k) (outK h k) (h.getD k 0#32) _ wr f (by rw[outK_length];omega) (by omega))
   have G:Hid (outK h (k+1)=put4 (outK h k) (4*k) (h.getD k 0#32)):=jh rfl
   obtain⟨a,b⟩:=jq2 i g
   clear i f g s
   generalize h.getD k 0#32=y at*
   go_wp2_with fail
   refine q.o.mono ?_
   rintro e B ⟨rfl,p,l⟩
   have a:=jh (a.o.grown l (by simp))
   have b:=jh (zab b.o l (by omega))
   have c:=jh p
   clear p l q v C
   go_wp2_with fail
   go_roundw
   case rel=>exact⟨k+1,by omega,by go_num,a.o,by rw[G.o];exact c.o,b.o⟩
   case measure=>simp[intOf];omega
  have z:k=8:=by omega
  subst z
  rw[outK_full h t.o]at f
  obtain⟨a,c,b⟩:=jq3 i f g
  clear i f g
  have j:Hid ((Tryz.prog.info? 23).map (·.size)=some ((outB h).map bval).length):=jh (zaf (outB_length h))
  have J:Hid (((outB h).map bval).length=(ints .u8 (List.replicate 32 0)).length):=jh (by rw[q100,outB_length,zaa,q112])
  go_wp2_with (first|(refine slb (A+1+1) c.o q102 j.o ?_)|(refine ssb (A+1) ((outB h).map bval) a.o J.o j.o (zac _) ?_;intro B E H))
  refine bodyPost_ret (zam rfl _ (A+1) _ _ _ _ rfl E q102 j.o) rfl ?_
  exact⟨rfl,zab b.o H (by omega)⟩
/-- The hash of p, of which n blocks are told by h and f bytes lie in l. -/
theorem closed_any(p l:List UInt8)(n f:Nat)(w:World)(hp:p.length=64*n+f)(hf:f<64)(hl:l.length=64)(hlf:l.take f=p.drop (64*n))(hb:p.length≤1099511627776)(hG:GlobR w):
  Calls Tryz.prog 68 #[.agg (ints .u32 (ws (hRun p n))).toArray,.agg (l.map bval).toArray,.int .i64 (f:Int),.int .i64 (p.length:Int)] w fun e w'=>
   e=.returned (.agg (ints .u32 (ws (hRun (padded p) ((p.length+72) / 64)))).toArray)∧Below w.heap.size w w':=by
 obtain⟨HG,HB,HL,HR⟩:=jq4 hG (boxes3u w (ints .u32 (ws (hRun p n))) (l.map bval) (ints .u32 (List.replicate 8 0)) 102 107 102) hl (zcz p n)
 have hb0:(p.length:Int)≤1099511627776:=by omega
 have hf0:(f:Int)<64:=by omega
 have HC1:Hid (f<56→_):=jh (fun h56=>close_one p l n f hp h56 hl hlf hb)
 have HC2:Hid (56≤f→_):=jh (fun h56=>close_two p l n f hp h56 hf hl hlf hb)
 generalize hRun (padded p) ((p.length+72) / 64)=R at*
 generalize hRun p n=h at*
 have HLB:=jh (lastB_length (l:=l) (f:=f) (by omega) hf)
 clear hG hlf hp
 go_enter Tryz.func68,Tryz.ntmps68
 go_upto_region 1 with(fail)
 obtain⟨H1,H2,H3,HE⟩:=HB.o
 change Code.wp _ _ _ _ (((w.alloc (.cells (ints .u32 (ws h)).toArray 102)).alloc (.cells (l.map bval).toArray 107)).alloc (.cells (ints .u32 (List.replicate 8 0)).toArray 102))
 generalize (((w.alloc (.cells (ints .u32 (ws h)).toArray 102)).alloc (.cells (l.map bval).toArray 107)).alloc (.cells (ints .u32 (List.replicate 8 0)).toArray 102))=w3 at*
 obtain⟨A,hA⟩:=nxq w.heap.size
 rw[←hA]at H1 H2 H3⊢
 have hA2:w.heap.size≤A:=by omega
 have c0:w3.cell? ⟨A+1,f,none⟩=some (.int .u8 ((l.getD f 0).toNat:Int)):=by rw[H2.cell,zbg (by omega)]
 have f0:=H2.free f
 obtain⟨H1,H2,H3⟩:=jq3 H1 H2 H3
 have HE:Hid (Ext w w3):=jh HE
 clear hA HB hl
 generalize ((l.getD f 0).toNat:Int)=z0 at*
 obtain⟨o,ho1,ho2,hs⟩:=cut_arr2 q153 q111 (w3.setCell ⟨A+1,f,none⟩ (.int .u8 128)) (A+1) (f+1) (by omega)
 have ef:((f+1:Nat):Int)=(f:Int)+1:=by omega
 rw[ef]at hs
 have HB3:=jh (H2.o.set f (.int .u8 128))
 have hcl:=run_clear_bytes (ty:=0) q104 Tryz.zeroValue5 (A+1) o (63 - f) (63 - f) _ _ HB3.o (by have:=HL.o;simp;omega)
 have HLL:=jh (laid_last l f o HL.o hf ho2)
 clear ho1 ho2 ef
 go_upto_region 3 with(fail)
 have H2:=Blk.setCells (List.replicate (63 - f) (.int .u8 0)) _ o _ HB3.o
 rw[HLL.o]at H2
 have hg:w3.grownBy ((w3.setCell ⟨A+1,f,none⟩ (.int .u8 128)).setCells (A+1) o (List.replicate (63 - f) (.int .u8 0))) (some (A+1)):=zbm _ _ _ _ (zav (zay w3 _) _ _)
 have H1:=jh (H1.o.grown hg (by simp))
 have H3:=jh (H3.o.grown hg (by simp))
 have HE:=jh (zab HE.o hg (by omega))
 have H2:=jh H2
 generalize (w3.setCell ⟨A+1,f,none⟩ (.int .u8 128)).setCells (A+1) o (List.replicate (63 - f) (.int .u8 0))=w4 at*
 clear hg HB3 HLL hcl hs c0 f0
 generalize hLB:lastB l f=lb at*
 have HI1:Hid ((Tryz.prog.info? 102).map (·.size)=some (ints .u32 (ws h)).length):=jh (by rw[zaa,zaw,HR.o];exact Tryz.arr102)
 have HI2:Hid ((Tryz.prog.info? 107).map (·.size)=some (lb.map bval).length):=jh (by rw[q100,HLB.o];exact Tryz.arr107)
 have q1:(wi (BitVec.ofNat 32 (p.length / 536870912)))=(p.length:Int) / 536870912:=by
  unfold wi
  rw[BitVec.toNat_ofNat]
  omega
 have q2:(wi (BitVec.ofNat 32 (8*p.length)))=(p.length:Int)*8%4294967296:=by
  unfold wi
  rw[BitVec.toNat_ofNat]
  omega
 obtain⟨HQ1,HQ2⟩:=jq2 q1 q2
 have hp0:(0:Int)≤(p.length:Int):=Int.natCast_nonneg _
 generalize (BitVec.ofNat 32 (p.length / 536870912))=x1 at*
 generalize (BitVec.ofNat 32 (8*p.length))=x2 at*
 generalize (p.length:Int)=N at*
 clear q1 q2 hb
 have s56:∀w,(Instr.sliceAt 107 (.pointer (some ⟨A+1,0,none⟩)) (some (.int .i64 56)) none none).run Tryz.prog w=.ok (.slice (some ⟨A+1,56,none⟩) 8 8) w:=fun w=>cut_arr q153 zcd q111 w (A+1) 56 (by omega)
 have s60:∀w,(Instr.sliceAt 107 (.pointer (some ⟨A+1,0,none⟩)) (some (.int .i64 60)) none none).run Tryz.prog w=.ok (.slice (some ⟨A+1,60,none⟩) 4 4) w:=fun w=>cut_arr q153 zcd q111 w (A+1) 60 (by omega)
 by_cases h56:f<56
 ·have h57:(f:Int)<56:=by omega
  have HP1:=put_any (A+1) 56 8 8 lb x1 _ w4 H2.o (by rw[HLB.o];omega) (by omega)
  rw[HQ1.o]at HP1
  have HP1:=jh HP1
  go_wp2_with fail
  refine HP1.o.mono ?_
  rintro e w5 ⟨rfl,hb,hg⟩
  have H1:=jh (H1.o.grown hg (by simp))
  have H3:=jh (H3.o.grown hg (by simp))
  have HE:=jh (zab HE.o hg (by omega))
  have H2:=jh hb
  clear hb hg HP1
  have HP2:=put_any (A+1) 60 4 4 (put4 lb 56 x1) x2 _ w5 H2.o (by rw[zcs,HLB.o];omega) (by omega)
  rw[HQ2.o]at HP2
  have HP2:=jh HP2
  go_wp2_with fail
  refine HP2.o.mono ?_
  rintro e w6 ⟨rfl,hb,hg⟩
  have H1:=jh (H1.o.grown hg (by simp))
  have H3:=jh (H3.o.grown hg (by simp))
  have HE:=jh (zab HE.o hg (by omega))
  have H2:=jh hb
  clear hb hg HP2
  have HI3:Hid ((Tryz.prog.info? 107).map (·.size)=some ((put4 (put4 lb 56 x1) 60 x2).map bval).length):=jh (by rw[q100,zcs,zcs,HLB.o];exact Tryz.arr107)
  have HI4:Hid ((Tryz.prog.info? 102).map (·.size)=some (ints .u32 (ws (mixF h (put4 (put4 lb 56 x1) 60 x2)))).length):=jh (by rw[zaa,zaw,mixF_length,HR.o];exact Tryz.arr102)
  have HI5:Hid ((ints .u32 (ws (mixF h (put4 (put4 lb 56 x1) 60 x2)))).length=(ints .u32 (List.replicate 8 0)).length):=jh (by rw[zaa,zaw,mixF_length,HR.o,zaa,q112])
  have HM:=jh (mixed_any h (put4 (put4 lb 56 x1) 60 x2) w6 HR.o (by rw[zcs,zcs,HLB.o]) (HG.o.ext HE.o))
  go_wp2_with (first|(refine slb A H1.o q131 HI1.o ?_)|(refine slb (A+1) H2.o q153 HI3.o ?_))
  refine HM.o.mono ?_
  rintro e w7 ⟨rfl,hb⟩
  have H3:=xxb H3 hb
  have HE:=xxt HE hb
  clear hb
  go_wp2_with (refine ssb (A+1+1) (ints .u32 (ws (mixF h (put4 (put4 lb 56 x1) 60 x2)))) H3.o HI5.o HI4.o (zah _ _) ?_;intro w8 hb8 hg8)
  refine bodyPost_ret (zam rfl _ (A+1+1) _ _ _ _ rfl hb8 q131 HI4.o) rfl ?_
  exact⟨by rw[HC1.o h56],zab HE.o hg8 (by omega)⟩
 have h57:56≤(f:Int):=by omega
 have HMA:=jh (mixed_any h lb w4 HR.o HLB.o (HG.o.ext HE.o))
 go_wp2_with (first|(refine slb A H1.o q131 HI1.o ?_)|(refine slb (A+1) H2.o q153 HI2.o ?_))
 refine HMA.o.mono ?_
 rintro e w9 ⟨rfl,hb⟩
 obtain⟨H1,H2,H3⟩:=xq3 H1 H2 H3 hb
 have HE:=xxt HE hb
 clear hb HMA HI1
 have HRM:Hid ((mixF h lb).length=8):=jh (by rw[mixF_length,HR.o])
 have HC3:Hid (R=_):=jh (HC2.o (by omega))
 generalize mixF h lb=h1 at*
 have HI1:Hid ((Tryz.prog.info? 102).map (·.size)=some (ints .u32 (ws h1)).length):=jh (by rw[zaa,zaw,HRM.o];exact Tryz.arr102)
 have HI6:Hid ((ints .u32 (ws h1)).length=(ints .u32 (ws h)).length):=jh (by rw[zaa,zaw,HRM.o,zaa,zaw,HR.o])
 have HI7:Hid ((Tryz.prog.info? 107).map (·.size)=some ((List.replicate 64 (0:UInt8)).map bval).length):=jh Tryz.arr107
 have HI8:Hid (((List.replicate 64 (0:UInt8)).map bval).length=(lb.map bval).length):=jh (by rw[q100,q100,HLB.o,q112])
 have hbz:=build_block
 go_upto_region 6 with(first|(refine ssb A (ints .u32 (ws h1)) H1.o HI6.o HI1.o (zah _ _) ?_;intro w10 hb10 hg10;have K1:=jh hb10;have K2:=jh (H2.o.grown hg10 (by simp));have K3:=jh (H3.o.grown hg10 (by simp<;>omega));have KE:=jh (zab HE.o hg10 (by omega));clear hb10 hg10)|(refine ssb (A+1) ((List.replicate 64 (0:UInt8)).map bval) K2.o HI8.o HI7.o (zac _) ?_;intro w11 hb11 hg11))
 have H1:=jh (K1.o.grown hg11 (by simp))
 have H3:=jh (K3.o.grown hg11 (by simp))
 have HE:=jh (zab KE.o hg11 (by omega))
 have H2:=jh hb11
 have HLZ:Hid ((List.replicate 64 (0:UInt8)).length=64):=jh (q112)
 generalize List.replicate 64 (0:UInt8)=lz at*
 clear hb11 hg11 K1 K2 K3 KE HI6 HI7 HI8 HI2
 have HP1:=put_any (A+1) 56 8 8 lz x1 _ w11 H2.o (by rw[HLZ.o];omega) (by omega)
 rw[HQ1.o]at HP1
 have HP1:=jh HP1
 go_wp2_with fail
 refine HP1.o.mono ?_
 rintro e w5 ⟨rfl,hb,hg⟩
 have H1:=jh (H1.o.grown hg (by simp))
 have H3:=jh (H3.o.grown hg (by simp))
 have HE:=jh (zab HE.o hg (by omega))
 have H2:=jh hb
 clear hb hg HP1
 have HP2:=put_any (A+1) 60 4 4 (put4 lz 56 x1) x2 _ w5 H2.o (by rw[zcs,HLZ.o];omega) (by omega)
 rw[HQ2.o]at HP2
 have HP2:=jh HP2
 go_wp2_with fail
 refine HP2.o.mono ?_
 rintro e w6 ⟨rfl,hb,hg⟩
 have H1:=jh (H1.o.grown hg (by simp))
 have H3:=jh (H3.o.grown hg (by simp))
 have HE:=jh (zab HE.o hg (by omega))
 have H2:=jh hb
 clear hb hg HP2
 have HI3:Hid ((Tryz.prog.info? 107).map (·.size)=some ((put4 (put4 lz 56 x1) 60 x2).map bval).length):=jh (by rw[q100,zcs,zcs,HLZ.o];exact Tryz.arr107)
 have HI4:Hid ((Tryz.prog.info? 102).map (·.size)=some (ints .u32 (ws (mixF h1 (put4 (put4 lz 56 x1) 60 x2)))).length):=jh (by rw[zaa,zaw,mixF_length,HRM.o];exact Tryz.arr102)
 have HI5:Hid ((ints .u32 (ws (mixF h1 (put4 (put4 lz 56 x1) 60 x2)))).length=(ints .u32 (List.replicate 8 0)).length):=jh (by rw[zaa,zaw,mixF_length,HRM.o,zaa,q112])
 have HM:=jh (mixed_any h1 (put4 (put4 lz 56 x1) 60 x2) w6 HRM.o (by rw[zcs,zcs,HLZ.o]) (HG.o.ext HE.o))
 go_wp2_with (first|(refine slb A H1.o q131 HI1.o ?_)|(refine slb (A+1) H2.o q153 HI3.o ?_))
 refine HM.o.mono ?_
 rintro e w7 ⟨rfl,hb⟩
 have H3:=xxb H3 hb
 have HE:=xxt HE hb
 clear hb
 go_wp2_with (refine ssb (A+1+1) (ints .u32 (ws (mixF h1 (put4 (put4 lz 56 x1) 60 x2)))) H3.o HI5.o HI4.o (zah _ _) ?_;intro w8 hb8 hg8)
 refine bodyPost_ret (zam rfl _ (A+1+1) _ _ _ _ rfl hb8 q131 HI4.o) rfl ?_
 exact⟨by rw[HC3.o],zab HE.o hg8 (by omega)⟩
structure ShaSt(w0 w:World)(Bh Bm Bo:Nat)(m:List UInt8)(n:Nat)(c l:List UInt8):Prop where
 all:l.length=64
 few:64*n+c.length≤m.length
 piece:c=(m.drop (64*n)).take 64
 blkH:Blk w Bh (ints .u32 (ws (hRun m n))) 102
 msg:MsgSt w0 w Bm ((m.drop (64*n)).drop 64)
 blkO:Blk w Bo ((c++l.drop c.length).map bval) 107
theorem Sum_num(v:Value)(i:List (List UInt8))(w:World)(hv:RowB w v i)(f:i.flatten.length≤1099511627776)(hG:GlobR w):
  Calls Tryz.prog 35 #[v] w fun e w'=>e=.returned (.agg ((sha256 i.flatten).map bval).toArray)∧Below w.heap.size w w':=by
 obtain⟨a,x,rfl,r1,r2⟩:=rowB_form hv
 obtain⟨m,hm⟩:=nxq i.flatten
 rw[←hm]at f⊢
 have am:=jh hm
 clear hm
 obtain⟨ai,HG,HB,b,d⟩:=jq5 hv hG f (Blk.made w (ints .u8 (List.replicate 32 0)) 23) (Ext.alloc w (.cells (ints .u8 (List.replicate 32 0)).toArray 23))
 unfold maxLen at r1
 clear hv hG f
 go_enter Tryz.func35,Tryz.ntmps35
 go_wp2_with fail
 change Calls _ _ _ (w.alloc (.cells (ints .u8 (List.replicate 32 0)).toArray 23)) _
 generalize w.alloc (.cells (ints .u8 (List.replicate 32 0)).toArray 23)=w1 at*
 obtain⟨A,hA⟩:=nxq w.heap.size
 have b:=b.o
 rw[←hA]at b⊢
 have az:w.heap.size≤A:=by omega
 have b:=jh b
 clear hA
 refine(start_any w1).mono ?_
 rintro e E ⟨rfl,f⟩
 have b:=xxb b f
 have d:=xxt d f
 clear f
 obtain⟨U,g,b,HS,d⟩:=jq5 b.o.lt (Blk.made E (ints .u32 (List.replicate 8 0)) 102) (b.o.alloc (.cells (ints .u32 (List.replicate 8 0)).toArray 102)) d.o.size (d.o.trans (Ext.alloc E (.cells (ints .u32 (List.replicate 8 0)).toArray 102)))
 go_upto_region 2 with(refine ssb E.heap.size (ints .u32 (ws H256)) g.o rfl Tryz.arr102 (zah _ _) ?_;intro w3 af W)
 have b:=jh (b.o.grown W (by have:=U.o;simp;omega))
 obtain⟨d,g⟩:=jq2 (zab d.o W HS.o) af
 have Q:Hid (A<E.heap.size):=U
 generalize E.heap.size=s at*
 clear af W U HS
 go_wp2_with fail
 refine(of_any a i.length x w3).mono ?_
 rintro e q ⟨rfl,f⟩
 have b:=xxb b f
 have a6:=jh (q116 g.o.lt f.size)
 have g:=xxb g f
 have d:=xxt d f
 clear f
 go_upto_region 3 with(fail)
 obtain⟨C,g,b,ab,d⟩:=jq5 (Blk.made q [.slice none 0 0,.slice a i.length x] 105) (g.o.alloc (.cells #[.slice none 0 0,.slice a i.length x] 105)) (b.o.alloc (.cells #[.slice none 0 0,.slice a i.length x] 105)) d.o.size (d.o.trans (Ext.alloc q (.cells #[.slice none 0 0,.slice a i.length x] 105)))
 have I:Hid (q.heap.size<(q.alloc (.cells #[.slice none 0 0,.slice a i.length x] 105)).heap.size):=jh (by simp)
 have C:Hid (MsgSt w (q.alloc (.cells #[.slice none 0 0,.slice a i.length x] 105)) q.heap.size m):=jh ⟨_,_,[],i,C.o,Row1.nil w,ai.o,by rw[am.o];simp⟩
 generalize q.alloc (.cells #[.slice none 0 0,.slice a i.length x] 105)=p at*
 have z:Hid (s<q.heap.size):=a6
 have O:w.heap.size≤q.heap.size:=ab.o
 generalize q.heap.size=u at*
 clear a6 ab
 have k:Hid (Blk (p.alloc (.cells (ints .u8 (List.replicate 64 0)).toArray 107)) p.heap.size ((List.replicate 64 (0:UInt8)).map bval) 107):=jh (Blk.made p (ints .u8 (List.replicate 64 0)) 107)
 have C:Hid (MsgSt w (p.alloc (.cells (ints .u8 (List.replicate 64 0)).toArray 107)) u m):=jh (C.o.same (heap_alloc_old p _ I.o))
 obtain⟨g,b,d⟩:=jq3 (g.o.alloc (.cells (ints .u8 (List.replicate 64 0)).toArray 107)) (b.o.alloc (.cells (ints .u8 (List.replicate 64 0)).toArray 107)) (d.o.trans (Ext.alloc p (.cells (ints .u8 (List.replicate 64 0)).toArray 107)))
 go_upto_region 4 with(fail)
 change Code.wp _ _ _ _ (p.alloc (.cells (ints .u8 (List.replicate 64 0)).toArray 107))
 generalize p.alloc (.cells (ints .u8 (List.replicate 64 0)).toArray 107)=w6 at*
 generalize p.heap.size=y at*
 have D:=jh (fill_any w w6 u y 64 m (List.replicate 64 0) 107 C.o k.o rfl (by omega) (by omega) d.o O I.o)
 clear C k
 go_wp2_with fail
 refine D.o.mono ?_
 intro e Y G
 unfold FillSaid at G
 obtain⟨c,hc,rfl,B,H,j⟩:=G
 obtain⟨g,b⟩:=jq2 (g.o.same (j.block s z.o)) (b.o.same (j.block A (Nat.lt_trans Q.o z.o)))
 have d:Hid (Ext w Y):=jh (Below.trans d.o (j.mono O))
 have S:Hid (ShaSt w Y s u y m 0 c (List.replicate 64 0)):=jh ⟨rfl,by rw[hc,q107];omega,by rw[hc];rfl,g.o,B,H⟩
 clear g hc B H j D ai
 go_wp2_with fail
 go_loopw [4,7] (fun T i7 wr=>∃(n:Nat) (c l:List UInt8),T=.int .i64 (64*(n:Int))∧i7=.int .i64 (c.length:Int)∧ShaSt w wr s u y m n c l∧Blk wr A (ints .u8 (List.replicate 32 0)) 23∧Ext w wr) (fun T _ _=>m.length - (intOf T).toNat)
 case atStart=>exact⟨0,c,List.replicate 64 0,rfl,rfl,S.o,b.o,d.o⟩
 case round=>
  clear S b d
  obtain⟨n,c,l,rfl,rfl,r,hz,j⟩:=hrel
  have n0:(0:Int)≤(n:Int):=Int.natCast_nonneg _
  have c0:(0:Int)≤(c.length:Int):=Int.natCast_nonneg _
  have a5:c.length≤64:=by rw[r.piece,q107];omega
  have a8:=r.few
  have aw:64*(n:Int)+(c.length:Int)≤1099511627776:=by have:=HB.o;omega
  obtain⟨J,an⟩:=jq2 (filled_length (c:=c) (l:=l) r.piece r.all) (zcz m n)
  have ah:Hid ((Tryz.prog.info? 102).map (·.size)=some (ints .u32 (ws (hRun m n))).length):=jh (by rw[zaa,zaw,zcz];exact Tryz.arr102)
  have ac:Hid ((Tryz.prog.info? 107).map (·.size)=some ((c++l.drop c.length).map bval).length):=jh (by rw[q100,J.o];exact Tryz.arr107)
  obtain⟨g,k,t,Z,HA,b⟩:=jq6 r.blkH r.blkO r.msg r.piece r.all hz
  obtain⟨d,X⟩:=jq2 j a8
  clear hz j r a8
  by_cases P:c.length=64
  ·have a9:((c.length:Int)==64)=true:=by simp;omega
   have HC:=jh P
   have HX:Hid (c++l.drop c.length=(m.drop (64*n)).take 64):=jh (by rw[P,q174 (by rw[HA.o];omega),q129];exact Z.o)
   have ay:64*(n:Int)+64≤1099511627776:=by omega
   have L:=jh (mixed_any (hRun m n) (c++l.drop c.length) wr an.o J.o (HG.o.ext d.o))
   rw[hRun_next m _ n HX.o]at L
   have ag:=J
   generalize c++l.drop c.length=N at*
   have a7:Hid ((Tryz.prog.info? 102).map (·.size)=some (ints .u32 (ws (hRun m (n+1)))).length):=jh (by rw[zaa,zaw,zcz];exact Tryz.arr102)
   have a0:Hid ((ints .u32 (ws (hRun m (n+1)))).length=(ints .u32 (ws (hRun m n))).length):=jh (by rw[zaa,zaw,zcz,zaa,zaw,zcz])
   clear P a5
   generalize hRun m n=h0 at*
   obtain⟨h1,V⟩:=nxq (hRun m (n+1))
   rw[←V]at L a7 a0
   have au:=jh V
   clear V
   go_wp2_with (first|(refine slb s g.o q131 ah.o ?_)|(refine slb y k.o q153 ac.o ?_))
   refine L.o.mono ?_
   rintro e w8 ⟨rfl,f⟩
   obtain⟨b,g,k⟩:=xq3 b g k f
   have t:=jh (t.o.same (f.block u t.o.lt))
   have d:=xxt d f
   clear f L
   go_upto_region 7 with(refine ssb s (ints .u32 (ws h1)) g.o a0.o a7.o (zah _ _) ?_;intro w9 a1 F)
   have b:=jh (b.o.grown F (by have:=Q.o;simp;omega))
   have k:=jh (k.o.grown F (by have:=z.o;have:=I.o;simp;omega))
   have t:=jh (t.o.same (F.block u t.o.lt (by have:=z.o;simp;omega)))
   have d:=jh (zab d.o F (by have:=Q.o;omega))
   have g:=jh a1
   clear a1 F
   have D:=jh (fill_any w w9 u y 64 _ N 107 t.o k.o ag.o (by omega) (by omega) d.o O I.o)
   clear t k
   go_wp2_with fail
   refine D.o.mono ?_
   intro e a4 G
   unfold FillSaid at G
   obtain⟨c2,M,rfl,B,H,j⟩:=G
   obtain⟨g,b⟩:=jq2 (g.o.same (j.block s z.o)) (b.o.same (j.block A (Nat.lt_trans Q.o z.o)))
   have d:Hid (Ext w a4):=jh (Below.trans d.o (j.mono O))
   have a3:(m.drop (64*n)).drop 64=m.drop (64*(n+1)):=by rw[q162,show 64*n+64=64*(n+1)from by omega]
   rw[a3]at M B
   have S:Hid (ShaSt w a4 s u y m (n+1) c2 N):=jh ⟨ag.o,by rw[M,q107,q120];have:=X.o;have:=HC.o;omega,M,by rw[←au.o];exact g.o,B,H⟩
   have av:Hid (64*(n+1)≤m.length):=jh (by have:=X.o;have:=HC.o;omega)
   clear g M B H j D a3 a9
   go_wp2_with fail
   go_roundw
   case rel=>exact⟨n+1,c2,N,by go_num,rfl,S.o,b.o,d.o⟩
   case measure=>have:=av.o;simp[intOf];omega
  have a9:((c.length:Int)==64)=false:=by simp;omega
  have ae:m.length=64*n+c.length:=by
   have h:=congrArg List.length Z.o
   rw[q107,q120]at h
   have:=X.o
   omega
  have ax:64*(n:Int)+(c.length:Int)=(m.length:Int):=by omega
  have aj:=jh (last_top (l:=l) Z.o rfl (by omega))
  have aa:=jh (closed_any m (c++l.drop c.length) n c.length wr ae (by omega) J.o aj.o HB.o (HG.o.ext d.o))
  clear P ae a5
  generalize c++l.drop c.length=N at*
  go_wp2_with (first|(refine slb s g.o q131 ah.o ?_)|(refine slb y k.o q153 ac.o ?_))
  refine aa.o.mono ?_
  rintro e p ⟨rfl,f⟩
  have b:=xxb b f
  have d:=xxt d f
  clear f aa
  have ak:Hid (outB (hRun (padded m) ((m.length+72) / 64))=sha256 m):=jh rfl
  have aq:=jh (zcz (padded m) ((m.length+72) / 64))
  generalize hRun (padded m) ((m.length+72) / 64)=R at*
  go_wp2_with fail
  refine(sha_numOf_any R aq.o p).mono ?_
  rintro e w6 ⟨rfl,f⟩
  have b:=xxb b f
  have d:=xxt d f
  clear f
  obtain⟨o,K⟩:=nxq (sha256 m)
  rw[ak.o,←K]
  have ad:Hid (o.length=32):=jh (by rw[K,zbc])
  have ao:=jh K
  clear K
  have a2:Hid ((Tryz.prog.info? 23).map (·.size)=some (o.map bval).length):=jh (zaf ad.o)
  have al:Hid ((o.map bval).length=(ints .u8 (List.replicate 32 0)).length):=jh (by rw[q100,ad.o,zaa,q112])
  go_wp2_with (refine ssb A (o.map bval) b.o al.o a2.o (zac _) ?_;intro Y ap ar)
  refine bodyPost_ret (zam rfl _ A _ _ _ _ rfl ap q102 a2.o) rfl ?_
  exact⟨by rw[ao.o],zab d.o ar (by omega)⟩
theorem Sum_one(x:Value)(l:List UInt8)(w:World)(d:Row1 w x (l.map bval))(f:l.length≤1099511627776)(g:GlobR w):
  Calls Tryz.prog 35 #[.slice (some ⟨w.heap.size,0,none⟩) 1 1] (w.alloc (.cells #[x] 24)) fun e b=>e=.returned (.agg ((sha256 l).map bval).toArray)∧Ext w b:=by
 have a:=Ext.alloc w (.cells #[x] 24)
 have h:=Sum_num _ [l] _ (rowB1 (Row1.made w #[x] 24 _ 1 [x] rfl rfl rfl (by unfold maxLen;omega)) (d.below a)) (by simpa using f) (g.ext a)
 refine h.mono fun e b c=>⟨?_,a.trans c.2⟩
 rw[c.1]
 simp
theorem mName_any(v:Value)(l:List UInt8)(w:World)(d:Row1 w v (l.map bval))(q:l.length≤1000000000)(k:GlobR w):
  Calls Tryz.prog 16 #[v] w fun e m=>e=.returned (.agg ((sha256 l).map bval).toArray)∧Below w.heap.size w m:=by
 obtain⟨a,u,rfl,_⟩:=id d
 rw[q100]at d⊢
 obtain⟨b,c⟩:=jq2 (Ext.alloc w (.cells zero32.toArray 23)) (Blk.made w zero32 23)
 have i:=jh (Sum_one _ l (w.alloc (.cells zero32.toArray 23)) (d.below b.o) (by omega) (k.ext b.o))
 have g:=jh (zbc l)
 clear d q k
 go_enter Tryz.func16,Tryz.ntmps16
 go_upto_region 1 with(fail)
 change Code.wp _ _ _ _ (w.alloc (.cells zero32.toArray 23))
 generalize w.alloc (.cells zero32.toArray 23)=s at*
 obtain⟨R,j⟩:=nxq w.heap.size
 have p:Hid (w.heap.size≤R):=jh (by omega)
 rw[←j]at c⊢
 clear j
 go_wp2_with fail
 refine i.o.mono ?_
 rintro e x ⟨rfl,f⟩
 have c:=xxb c f
 have b:=xxt b f
 have h:=jh (zaf g.o)
 clear f i
 go_wp2_with (refine ssb R ((sha256 l).map bval) c.o (by rw[q100,g.o];rfl) h.o (zac _) ?_;intro t n r)
 refine bodyPost_ret (zam rfl _ R _ _ _ _ rfl n q102 h.o) rfl ?_
 exact⟨rfl,zab b.o r p.o⟩
end Go.Proofs.YtgnfdonbholcdaaGreatDoor


