/- Lemmas. -/
import Derived.Test.YtgnfdonbholcdaaGreatDoorQz10
namespace Go.Proofs.YtgnfdonbholcdaaGreatDoor
set_option linter.unusedVariables false
set_option maxRecDepth 100000
set_option maxHeartbeats 32000000
set_option linter.unusedSimpArgs false
open Go.RowKit
theorem written_as {v:Value} {l b:List UInt8} {w:World}(h:l=b)(c:Calls Tryz.prog 78 #[v] w fun e a=>e=.returned (.agg (l.map bval).toArray)∧Below w.heap.size w a):Calls Tryz.prog 78 #[v] w fun e a=>e=.returned (.agg (b.map bval).toArray)∧Below w.heap.size w a:=by
 subst h
 exact c
theorem add_as {x y:Value} {l b:List UInt8} {w:World}(h:l=b)(c:Calls Tryz.prog 81 #[x,y] w fun e a=>e=.returned (.agg (l.map bval).toArray)∧Below w.heap.size w a):Calls Tryz.prog 81 #[x,y] w fun e a=>e=.returned (.agg (b.map bval).toArray)∧Below w.heap.size w a:=by
 subst h
 exact c
theorem wide_two(x y:Value)(l m o:List UInt8)(w:World)(g:Row1 w x (l.map bval))(j:Row1 w y (m.map bval))(k:l++m=o)(f:o.length≤1099511627776)(d:GlobK5 w)(i:GlobO w):
  Calls Tryz.prog 77 #[.slice (some ⟨w.heap.size,0,none⟩) 2 2] (w.alloc (.cells #[x,y] 24)) fun e b=>e=.returned (.agg ((wideB o).map bval).toArray)∧Ext w b:=by
 have a:=Ext.alloc w (.cells #[x,y] 24)
 have h:=rwide_v _ [l,m] o _ (rowB2 (Row1.made w #[x,y] 24 _ 2 [x,y] rfl rfl rfl (by unfold maxLen;omega)) (g.below a) (j.below a)) (by rw[←k];simp) f (d.ext a) (i.ext a)
 refine h.mono fun e b c=>?_
 exact⟨c.1,a.trans c.2⟩
theorem lay_two {r s:List UInt8}(a:r.length=32)(b:s.length=32):splice ((r++List.replicate 32 (0:UInt8)).map bval) 32 (s.map bval)=((r++s).map bval):=by
 rw[splice_bytes,b]
 congr 1
 rw[q166 (by omega),q108 (by omega),q174 (by simp[a]),q129]
theorem lay_one {r:List UInt8}(a:r.length=32):splice ((List.replicate 64 (0:UInt8)).map bval) 0 (r.map bval)=((r++List.replicate 32 (0:UInt8)).map bval):=by
 rw[splice_bytes,a]
 simp
theorem rsign_f(s m:List UInt8)(bv:Value)(w:World)(hs:s.length=32)(r:Row1 w bv (m.map bval))(hm:m.length≤1000000000000)(c:GlobK5 w)(hO:GlobO w)(hD:GlobD w)(C:GlobX w)(hY:GlobY w):
  Calls Tryz.prog 44 #[.agg (s.map bval).toArray,bv] w fun e y=>e=.returned (.agg ((edSign s m).map bval).toArray)∧Below w.heap.size w y:=by
 obtain⟨iq,az,b7,bh⟩:=info_two (P:=Tryz.prog) (t:=24) (z:=.slice none 0 0) (n:=1) (by kernel_rfl)
 obtain⟨c4,br,aq⟩:=jq3 az b7 bh
 obtain⟨am,cm,bl,_⟩:=id r
 rw[q100]at bl
 subst bl
 obtain⟨b6,aw,ag,ai,aj,b9⟩:=jq6 r hm hs c hO hD
 obtain⟨ba,bg,HB⟩:=jq3 C hY (boxes2 w (s.map bval) (ints .u8 (List.replicate 64 0)) 23 26)
 clear az b7 bh hs r hm c hO hD C hY
 go_enter Tryz.func44,Tryz.ntmps44
 go_upto_region 1 with(fail)
 obtain⟨H1,H2,b⟩:=HB.o
 change Code.wp _ _ _ _ ((w.alloc (.cells (s.map bval).toArray 23)).alloc (.cells (ints .u8 (List.replicate 64 0)).toArray 26))
 generalize (w.alloc (.cells (s.map bval).toArray 23)).alloc (.cells (ints .u8 (List.replicate 64 0)).toArray 26)=wa at*
 obtain⟨A,hA⟩:=nxq w.heap.size
 have i:Hid (w.heap.size≤A):=jh (by omega)
 rw[←hA]at H1 H2⊢
 obtain⟨G,g⟩:=jq2 H1 H2
 have b:Hid (Ext w wa):=jh b
 clear hA HB H1 H2
 have ae:Hid ((secA s).length=32):=jh (by unfold secA;exact zcy (by rw[q107,zdw];rfl))
 have b8:Hid ((secH s).length=32):=jh (by unfold secH;rw[q120,zdw])
 have bo:Hid (wideB (secH s++m)=edNum s m):=jh rfl
 have bc:Hid (encB (pmul (leN (edNum s m)) bP)=edR s m):=jh rfl
 have bb:Hid (nq ((leN (edNum s m):Nat)+(leN (nq ((leN (wideB (edR s m++(edPub s++m))):Nat)*(leN (secA s):Nat))):Nat))=edS s m):=jh rfl
 have b0:Hid (edR s m++edS s m=edSign s m):=jh rfl
 have ab:Hid ((edNum s m).length=32):=jh (wideB_length _)
 obtain⟨V,al,ad,ac⟩:=jq4 (edR_length s m) (zdh s) (edS_length s m) (zet s m)
 have bi:=jh (fun w h=>rparts_f s w ag.o h)
 have bj:=jh (fun w h1 h2 h3 h4=>rpublic_f s w ag.o h1 h2 h3 h4)
 obtain⟨W,ak⟩:=nxq (wideB (edR s m++(edPub s++m)))
 have an:Hid (W.length=32):=jh (by rw[ak];exact wideB_length _)
 rw[←ak]at bb
 have bs:=jh ak
 clear ak
 obtain⟨sg,av⟩:=nxq (edSign s m)
 rw[←av]at b0 ac
 have c0:=jh av
 clear av
 generalize secA s=a at*
 generalize secH s=hh at*
 generalize edNum s m=U at*
 generalize edR s m=rd at*
 generalize edPub s=pb at*
 generalize edS s m=sd at*
 go_wp2_with (refine slb A G.o q102 (zaf ag.o) ?_)
 refine(bi.o _ (ai.o.ext b.o)).mono ?_
 rintro e wb ⟨x,rfl,hx,r⟩
 obtain⟨G,g⟩:=xq2 G g r
 have b:=xxt b r
 obtain⟨ax,cx,ay,_⟩:=id hx
 rw[q100,b8.o]at ay
 subst ay
 have ah:=jh hx
 clear hx r bi
 obtain⟨HZ,a6⟩:=jq2 (Blk.made wb (ints .u8 (List.replicate 32 0)) 23) (Ext.alloc wb (.cells (ints .u8 (List.replicate 32 0)).toArray 23))
 have X:Hid ((a.map bval).length=(ints .u8 (List.replicate 32 0)).length):=jh (by rw[q100,ae.o,zaa];rfl)
 go_upto_region 2 with(refine ssb wb.heap.size (a.map bval) HZ.o X.o (zaf ae.o) (zac _) ?_;intro w1 O a3)
 have J:=jh (zab a6.o a3 (q101 _))
 obtain⟨Ab,q⟩:=nxq wb.heap.size
 have bn:Hid (A+1<Ab):=jh (by rw[q];exact g.o.lt)
 rw[←q]at O⊢
 have E:=jh O
 obtain⟨G,g⟩:=xq2 G g J.o
 have b:=xxt b J.o
 obtain⟨i,ah⟩:=jq2 (And.intro i.o bn.o) (ah.o.below J.o)
 clear O a3 HZ a6 J X q
 have be:=jh (b6.o.below b.o)
 go_wp2_with fail
 refine(wide_two _ _ hh m _ w1 ah.o be.o rfl (by rw[q105,b8.o];have:=aw.o;omega) (ai.o.ext b.o) (aj.o.ext b.o)).mono ?_
 rintro e w2 ⟨rfl,r⟩
 obtain⟨G,g,E⟩:=xq3 G g E r
 have b:=xxt b r
 clear r ah be
 rw[bo.o]
 obtain⟨HZ,a6⟩:=jq2 (Blk.made w2 (ints .u8 (List.replicate 32 0)) 23) (Ext.alloc w2 (.cells (ints .u8 (List.replicate 32 0)).toArray 23))
 have X:Hid ((U.map bval).length=(ints .u8 (List.replicate 32 0)).length):=jh (by rw[q100,ab.o,zaa];rfl)
 go_upto_region 3 with(refine ssb w2.heap.size (U.map bval) HZ.o X.o (zaf ab.o) (zac _) ?_;intro D O a3)
 have J:=jh (zab a6.o a3 (q101 _))
 obtain⟨Nb,q⟩:=nxq w2.heap.size
 have bx:Hid (Ab<Nb):=jh (by rw[q];exact E.o.lt)
 rw[←q]at O⊢
 have M:=jh O
 obtain⟨G,g,E⟩:=xq3 G g E J.o
 have b:=xxt b J.o
 have i:=jh (And.intro i.o bx.o)
 clear O a3 HZ a6 J X q
 have c9:=jh (erun_full (Pt.es_is bP) (m:=256) (n:=leN U) (by have:=leN_lt U;rw[ab.o]at this;exact Nat.lt_of_lt_of_eq this (by decide+kernel)))
 have ca:Hid (encB (pmul (leN U) bP)=rd):=bc
 go_upto_region 3 with(fail)
 try simp only[nm]
 go_cut [8]from 22 to 25 (fun vq wq=>∃Q,vq=.pointer (some ⟨Q,0,none⟩)∧D.heap.size≤Q∧Blk wq Q (rd.map bval) 23∧Ext D wq)
 case first=>
  have B0:Ext D D.drew:=Ext.drew _
  refine wp_region_held_drew (S:=fun y=>Ext D y) (by kernel_rfl) B0 (fun p=>?_)
  refine tke 1 (.agg ((U).map bval).toArray) rfl (sld Nb 0 (fun w h=>zax M.o h) q102 (zaf ab.o)) p ?_
  simp only[nm]
  refine Fl.go (f:=4) (d:=8) (zs:=zero32) (T:=23) (B:=(D).heap.size) ?_ p
  clear p
  refine Fl.step 0 rfl rfl rfl rfl rfl q138 (fun _ _ h1 h2=>h1.trans h2) (fun _ h=>h.size) (fun z1 u K a8 F c=>?_)
  have a7:Ext D z1:=B0.trans a8
  clear F
  go_simp
  refine(rbase_f _ (ba.o.ext (b.o.trans a7)) (bg.o.ext (b.o.trans a7))).mono ?_
  rintro e m1 ⟨v1,rfl,e1,b1⟩
  obtain⟨a1,c1,d1,g1,a8,z1⟩:=e1
  subst a8
  have N1:Ext D m1:=a7.trans b1
  refine c.o (.agg (ptC a1 c1 d1 g1).toArray) _ b1 N1 ?_
  clear c K u
  try simp only[nm]
  refine Fl.step 2 rfl rfl rfl rfl rfl q138 (fun _ _ h1 h2=>h1.trans h2) (fun _ h=>h.size) (fun z2 u K a4 F c=>?_)
  have R:Ext D z2:=N1.trans a4
  clear F
  go_simp
  refine(rmany_f _ bP.es U _ (⟨_,_,_,_,rfl,z1⟩:PtV _ (bP.es)) ab.o (b9.o.ext (b.o.trans R))).mono ?_
  rintro e m2 ⟨v2,rfl,e2,b2⟩
  obtain⟨a2,c2,d2,g2,a4,z2⟩:=e2
  subst a4
  have N2:Ext D m2:=R.trans b2
  refine c.o (.agg (ptC a2 c2 d2 g2).toArray) _ b2 N2 ?_
  clear c K u
  try simp only[nm]
  refine Fl.step 3 rfl rfl rfl rfl rfl q138 (fun _ _ h1 h2=>h1.trans h2) (fun _ h=>h.size) (fun z3 u K bu F c=>?_)
  have c6:Ext D z3:=N2.trans bu
  clear F
  go_simp
  refine(written_as bc.o (rwritten_f _ _ (pmul (leN U) bP) _ (⟨_,_,_,_,rfl,z2⟩:PtV _ (erun 256 bP.es (leN U) 256)) c9.o)).mono ?_
  rintro e m3 ⟨rfl,b3⟩
  have N3:Ext D m3:=c6.trans b3
  refine c.o (.agg ((rd).map bval).toArray) _ b3 N3 ?_
  clear c K u
  try simp only[nm]
  refine Fl.last rfl rfl rfl rfl q138 (fun _ _ h1 h2=>h1.trans h2) (fun _ h=>h.size) (fun m4 g4 b4 p l4 z4=>?_)
  try simp only[nm]
  have N4:Ext D m4:=N3.trans b4
  refine rdy 5 rfl fun K c=>?_
  refine zan (by rfl) ?_
  refine zar _ _ _ rfl g4 ((rd).map bval) rfl rfl _ _ z4 (by rw[q100,V.o];rfl) (zaf (V.o)) (zac _) ?_
  intro m5 c5 c8
  have N5:Ext D m5:=zab N4 c8 l4
  refine c.o _ _ N5 (fun p=>?_)
  clear c K
  try simp only[nm]
  refine dne ?_
  go_wp2_with fail
  go_meet
  exact⟨_,rfl,l4,c5,N5⟩
 case rest=>
 obtain⟨Y,rfl,a0,a5,C⟩:=hcut
 have bq:Hid (Nb<Y):=jh (q116 M.o.lt a0)
 have l:=jh a5
 obtain⟨G,g,E,M⟩:=xq4 G g E M C
 have b:=xxt b C
 have i:=jh (And.intro i.o bq.o)
 clear a0 a5 C
 generalize wc=w4 at*
 go_wp2_with (refine slb A G.o q102 (zaf ag.o) ?_)
 refine(bj.o _ (ai.o.ext b.o) (b9.o.ext b.o) (ba.o.ext b.o) (bg.o.ext b.o)).mono ?_
 rintro e w5 ⟨rfl,r⟩
 obtain⟨g,E,M,l⟩:=xq4 g E M l r
 have b:=xxt b r
 clear r G bj
 obtain⟨HZ,a6⟩:=jq2 (Blk.made w5 (ints .u8 (List.replicate 32 0)) 23) (Ext.alloc w5 (.cells (ints .u8 (List.replicate 32 0)).toArray 23))
 have X:Hid ((pb.map bval).length=(ints .u8 (List.replicate 32 0)).length):=jh (by rw[q100,al.o,zaa];rfl)
 go_upto_region 5 with(refine ssb w5.heap.size (pb.map bval) HZ.o X.o (zaf al.o) (zac _) ?_;intro H O a3)
 have J:=jh (zab a6.o a3 (q101 _))
 obtain⟨Pb,q⟩:=nxq w5.heap.size
 have bw:Hid (Y<Pb):=jh (by rw[q];exact l.o.lt)
 rw[←q]at O⊢
 have bd:=jh O
 obtain⟨g,E,M,l⟩:=xq4 g E M l J.o
 have b:=xxt b J.o
 have i:=jh (And.intro i.o bw.o)
 clear O a3 HZ a6 J X q
 have bf:=jh (b6.o.below b.o)
 have bk:Hid (∀v y,Ext H y→RowB y v [rd,pb,m]→Calls Tryz.prog 77 #[v] y fun e bt=>e=.returned (.agg (W.map bval).toArray)∧Below y.heap.size y bt):=jh (fun v y he hv=>by rw[bs.o];exact rwide_v v _ _ y hv (by simp) (by simp only[q105,V.o,al.o];have:=aw.o;omega) (ai.o.ext (b.o.trans he)) (aj.o.ext (b.o.trans he)))
 go_upto_region 5 with(fail)
 try simp only[nm]
 go_cut [10]from 28 to 32 (fun vq wq=>∃Q,vq=.pointer (some ⟨Q,0,none⟩)∧H.heap.size≤Q∧Blk wq Q (W.map bval) 23∧Ext H wq)
 case first=>
  have B0:Ext H H.drew:=Ext.drew _
  refine wp_region_held_drew (S:=fun y=>Ext H y) (by kernel_rfl) B0 (fun p=>?_)
  refine tke 0 (.slice (some ⟨Y,0,none⟩) 32 32) rfl (zbp _ _ _ _ (.pointer (some ⟨Y,0,none⟩)) (.slice (some ⟨Y,0,none⟩) 32 32) none none (by rfl) rfl rfl rfl rfl (fun w=>zdf q102 q111 (by omega) _ w)) p ?_
  simp only[nm]
  refine tke 1 (.slice (some ⟨Pb,0,none⟩) 32 32) rfl (zbp _ _ _ _ (.pointer (some ⟨Pb,0,none⟩)) (.slice (some ⟨Pb,0,none⟩) 32 32) none none (by rfl) rfl rfl rfl rfl (fun w=>zdf q102 q111 (by omega) _ w)) p ?_
  simp only[nm]
  refine tke 2 (.slice am m.length cm) rfl (zbe _ (.slice am m.length cm) (by rfl) rfl rfl) p ?_
  simp only[nm]
  refine Fl.go (f:=5) (d:=10) (zs:=zero32) (T:=23) (B:=(H).heap.size) ?_ p
  clear p
  refine Fl.step 3 rfl rfl rfl rfl rfl q138 (fun _ _ h1 h2=>h1.trans h2) (fun _ h=>h.size) (fun z1 u K a8 F c=>?_)
  have a7:Ext H z1:=B0.trans a8
  clear F
  refine zan (by rfl) ?_
  refine zbl (some 31) _ _ _ _ rfl rfl #[.slice (some ⟨Y,0,none⟩) 32 32,.slice (some ⟨Pb,0,none⟩) 32 32,.slice am m.length cm] iq (.slice none 0 0) q169 c4.o br.o (by rw[aq.o];decide) (by rw[aq.o];decide) (by rw[aq.o];kernel_rfl) ?_
  obtain⟨m1,af⟩:=nxq (World.alloc z1 (.cells #[.slice (some ⟨Y,0,none⟩) 32 32,.slice (some ⟨Pb,0,none⟩) 32 32,.slice am m.length cm] 24))
  rw[←af]
  have b1:Ext z1 m1:=by rw[af];exact Ext.alloc _ _
  obtain⟨g1,ar⟩:=nxq ((z1).heap.size)
  rw[←ar]
  have r1:Row1 m1 (.slice (some ⟨g1,0,none⟩) 3 3) [.slice (some ⟨Y,0,none⟩) 32 32,.slice (some ⟨Pb,0,none⟩) 32 32,.slice am m.length cm]:=by rw[af,ar];exact Row1.made _ _ _ _ _ _ rfl rfl rfl (by unfold maxLen;omega)
  clear af ar
  have N1:Ext H m1:=a7.trans b1
  refine c.o (.slice (some ⟨g1,0,none⟩) 3 3) _ b1 N1 ?_
  clear c K u
  try simp only[nm]
  refine Fl.step 4 rfl rfl rfl rfl rfl q138 (fun _ _ h1 h2=>h1.trans h2) (fun _ h=>h.size) (fun z2 u K a4 F c=>?_)
  have r1:=r1.below a4
  have R:Ext H z2:=N1.trans a4
  clear F
  go_simp
  refine(bk.o _ _ R (rowB3 r1 ((zbz (n:=32) l.o (by rw[q100];exact V.o) (by unfold maxLen;omega)).below R) ((zbz (n:=32) bd.o (by rw[q100];exact al.o) (by unfold maxLen;omega)).below R) ((bf.o).below R))).mono ?_
  rintro e m2 ⟨rfl,b2⟩
  have r1:=r1.below b2
  have N2:Ext H m2:=R.trans b2
  refine c.o (.agg ((W).map bval).toArray) _ b2 N2 ?_
  clear c K u
  try simp only[nm]
  refine Fl.last rfl rfl rfl rfl q138 (fun _ _ h1 h2=>h1.trans h2) (fun _ h=>h.size) (fun m3 g3 b3 p l3 z3=>?_)
  try simp only[nm]
  have r1:=r1.below b3
  have N3:Ext H m3:=N2.trans b3
  refine rdy 6 rfl fun K c=>?_
  refine zan (by rfl) ?_
  refine zar _ _ _ rfl g3 ((W).map bval) rfl rfl _ _ z3 (by rw[q100,an.o];rfl) (zaf (an.o)) (zac _) ?_
  intro m4 ap au
  have N4:Ext H m4:=zab N3 au l3
  refine c.o _ _ N4 (fun p=>?_)
  clear c K
  try simp only[nm]
  refine dne ?_
  go_wp2_with fail
  go_meet
  exact⟨_,rfl,l3,ap,N4⟩
 case rest=>
 obtain⟨Kb,rfl,a0,a5,C⟩:=hcut
 have bz:Hid (Pb<Kb):=jh (q116 bd.o.lt a0)
 have b5:=jh a5
 obtain⟨g,E,M,l⟩:=xq4 g E M l C
 have b:=xxt b C
 have i:=jh (And.intro i.o bz.o)
 clear a0 a5 C
 generalize wc=L at*
 clear bf bk
 go_upto_region 6 with(fail)
 try simp only[nm]
 go_cut [11]from 33 to 37 (fun vq wq=>∃Q,vq=.pointer (some ⟨Q,0,none⟩)∧L.heap.size≤Q∧Blk wq Q (sd.map bval) 23∧Ext L wq)
 case first=>
  have B0:Ext L L.drew:=Ext.drew _
  refine wp_region_held_drew (S:=fun y=>Ext L y) (by kernel_rfl) B0 (fun p=>?_)
  refine tke 0 (.agg ((U).map bval).toArray) rfl (sld Nb 0 (fun w h=>zax M.o h) q102 (zaf ab.o)) p ?_
  simp only[nm]
  refine tke 1 (.agg ((W).map bval).toArray) rfl (sld Kb 0 (fun w h=>zax b5.o h) q102 (zaf an.o)) p ?_
  simp only[nm]
  refine tke 2 (.agg ((a).map bval).toArray) rfl (sld Ab 0 (fun w h=>zax E.o h) q102 (zaf ae.o)) p ?_
  simp only[nm]
  refine Fl.go (f:=5) (d:=11) (zs:=zero32) (T:=23) (B:=(L).heap.size) ?_ p
  clear p
  refine Fl.step 3 rfl rfl rfl rfl rfl q138 (fun _ _ h1 h2=>h1.trans h2) (fun _ h=>h.size) (fun z1 u K a8 F c=>?_)
  have a7:Ext L z1:=B0.trans a8
  clear F
  go_simp
  refine(rMulQ_num W a _ an.o ae.o (aj.o.ext (b.o.trans a7))).mono ?_
  rintro e m1 ⟨rfl,b1⟩
  have N1:Ext L m1:=a7.trans b1
  refine c.o (.agg ((nq ((leN W:Nat)*(leN a:Nat))).map bval).toArray) _ b1 N1 ?_
  clear c K u
  try simp only[nm]
  refine Fl.step 4 rfl rfl rfl rfl rfl q138 (fun _ _ h1 h2=>h1.trans h2) (fun _ h=>h.size) (fun z2 u K a4 F c=>?_)
  have R:Ext L z2:=N1.trans a4
  clear F
  go_simp
  refine(add_as bb.o (rAddQ_num U (nq ((leN W:Nat)*(leN a:Nat))) _ ab.o (nq_length _) (aj.o.ext (b.o.trans R)))).mono ?_
  rintro e m2 ⟨rfl,b2⟩
  have N2:Ext L m2:=R.trans b2
  refine c.o (.agg ((sd).map bval).toArray) _ b2 N2 ?_
  clear c K u
  try simp only[nm]
  refine Fl.last rfl rfl rfl rfl q138 (fun _ _ h1 h2=>h1.trans h2) (fun _ h=>h.size) (fun m3 g3 b3 p l3 z3=>?_)
  try simp only[nm]
  have N3:Ext L m3:=N2.trans b3
  refine rdy 6 rfl fun K c=>?_
  refine zan (by rfl) ?_
  refine zar _ _ _ rfl g3 ((sd).map bval) rfl rfl _ _ z3 (by rw[q100,ad.o];rfl) (zaf (ad.o)) (zac _) ?_
  intro m4 ap au
  have N4:Ext L m4:=zab N3 au l3
  refine c.o _ _ N4 (fun p=>?_)
  clear c K
  try simp only[nm]
  refine dne ?_
  go_wp2_with fail
  go_meet
  exact⟨_,rfl,l3,ap,N4⟩
 case rest=>
 obtain⟨Sb,rfl,a0,a5,C⟩:=hcut
 have bp:Hid (Kb<Sb):=jh (q116 b5.o.lt a0)
 have I:=jh a5
 obtain⟨g,l⟩:=xq2 g l C
 have b:=xxt b C
 have i:=jh (And.intro i.o bp.o)
 clear a0 a5 C
 generalize wc=w8 at*
 have ao:=Ext.alloc w8 (.cells (ints .u8 (List.replicate 64 0)).toArray 26)
 obtain⟨Gb,q⟩:=nxq w8.heap.size
 have bm:Hid (Sb<Gb):=jh (by rw[q];exact I.o.lt)
 have Z:Hid (Blk (w8.alloc (.cells (ints .u8 (List.replicate 64 0)).toArray 26)) Gb ((List.replicate 64 (0:UInt8)).map bval) 26):=jh (by rw[q];exact Blk.made w8 (ints .u8 (List.replicate 64 0)) 26)
 obtain⟨g,l,I⟩:=xq3 g l I ao
 have b:=xxt b ao
 have i:=jh (And.intro i.o bm.o)
 clear ao
 go_upto_region 8 with(fail)
 change Code.wp _ _ _ _ (w8.alloc (.cells (ints .u8 (List.replicate 64 0)).toArray 26))
 rw[←q]
 clear q
 generalize w8.alloc (.cells (ints .u8 (List.replicate 64 0)).toArray 26)=w9 at*
 refine swf 2 1 2 ?_
 refine zde (.slice (some ⟨Gb,0,none⟩) 32 64) (by rfl) (fun w hw=>by go_simp) ?_
 simp only[nm]
 refine zde (.slice (some ⟨Y,0,none⟩) 32 32) (by rfl) (fun w hw=>by go_simp) ?_
 simp only[nm]
 refine det_nil (end_store (k:=2) rfl (by kernel_rfl) (by kernel_rfl) (by kernel_rfl) rfl (fun wy aa=>?_))
 obtain⟨g,l,I,Z⟩:=xq4 g l I Z aa
 have b:=xxt b aa
 clear aa
 refine zbu _ _ 24 24 rfl 5 q104 u8_oneV _ _ _ _ _ _ rfl rfl Gb 0 _ _ Z.o (rd.map bval) (by rw[q100,V.o];rfl) (fun _=>⟨rfl,⟨Y,0,none⟩,rfl,fun j v hj=>?_⟩) (by simp[V.o,V.o]) (zac _) ?_
 ·rw[WideShapes.add_plain,q117,l.o.cell,←hj]
 intro cb a9 N
 rw[lay_one V.o]at a9
 have g:=jh (g.o.grown N (by have:=i.o;simp;omega))
 have l:=jh (l.o.grown N (by have:=i.o;simp;omega))
 have I:=jh (I.o.grown N (by have:=i.o;simp;omega))
 have b:=jh (zab b.o N (by have:=i.o;omega))
 have Z:=jh a9
 clear a9 N
 generalize goInt (rd.map bval).length=gl at*
 simp only[nm]
 go_upto_region 9 with(fail)
 refine swf 2 1 2 ?_
 refine zde (.slice (some ⟨Gb,32,none⟩) 32 32) (by rfl) (fun w hw=>by go_simp) ?_
 simp only[nm]
 refine zde (.slice (some ⟨Sb,0,none⟩) 32 32) (by rfl) (fun w hw=>by go_simp) ?_
 simp only[nm]
 refine det_nil (end_store (k:=2) rfl (by kernel_rfl) (by kernel_rfl) (by kernel_rfl) rfl (fun wy aa=>?_))
 obtain⟨g,l,I,Z⟩:=xq4 g l I Z aa
 have b:=xxt b aa
 clear aa
 refine zbu _ _ 24 24 rfl 5 q104 u8_oneV _ _ _ _ _ _ rfl rfl Gb 32 _ _ Z.o (sd.map bval) (by rw[q100,ad.o];rfl) (fun _=>⟨rfl,⟨Sb,0,none⟩,rfl,fun j v hj=>?_⟩) (by simp[ad.o,V.o]) (zac _) ?_
 ·rw[WideShapes.add_plain,q117,I.o.cell,←hj]
 intro cc a9 N
 rw[lay_two V.o ad.o,b0.o]at a9
 have g:=jh (g.o.grown N (by have:=i.o;simp;omega))
 have l:=jh (l.o.grown N (by have:=i.o;simp;omega))
 have I:=jh (I.o.grown N (by have:=i.o;simp;omega))
 have b:=jh (zab b.o N (by have:=i.o;omega))
 have Z:=jh a9
 clear a9 N
 generalize goInt (sd.map bval).length=gl at*
 simp only[nm]
 have X:Hid ((sg.map bval).length=(ints .u8 (List.replicate 64 0)).length):=jh (by rw[q100,ac.o,zaa];rfl)
 go_wp2_with (first|(refine slb Gb Z.o q126 (zep ac.o) ?_)|(refine ssb (A+1) (sg.map bval) g.o X.o (zep ac.o) (zac _) ?_;intro wn c7 c3))
 refine bodyPost_ret (zam rfl _ (A+1) _ _ _ _ rfl c7 q126 (zep ac.o)) rfl ⟨by rw[c0.o],zab b.o c3 (by have:=i.o;omega)⟩
end Go.Proofs.YtgnfdonbholcdaaGreatDoor


