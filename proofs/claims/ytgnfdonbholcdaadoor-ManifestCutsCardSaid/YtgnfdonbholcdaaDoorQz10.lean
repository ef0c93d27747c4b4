/- Lemmas. -/
import Derived.Test.YtgnfdonbholcdaaDoorQz09
namespace Go.Proofs.YtgnfdonbholcdaaDoor
set_option linter.unusedVariables false
set_option maxRecDepth 100000
set_option maxHeartbeats 32000000
set_option linter.unusedSimpArgs false
open Go.RowKit
theorem written_as {v:Value} {l b:List UInt8} {w:World}(h:l=b)(c:Calls Tryd.prog 40 #[v] w fun e a=>e=.returned (.agg (l.map bval).toArray)∧Below w.heap.size w a):Calls Tryd.prog 40 #[v] w fun e a=>e=.returned (.agg (b.map bval).toArray)∧Below w.heap.size w a:=by
 subst h
 exact c
theorem add_as {x y:Value} {l b:List UInt8} {w:World}(h:l=b)(c:Calls Tryd.prog 51 #[x,y] w fun e a=>e=.returned (.agg (l.map bval).toArray)∧Below w.heap.size w a):Calls Tryd.prog 51 #[x,y] w fun e a=>e=.returned (.agg (b.map bval).toArray)∧Below w.heap.size w a:=by
 subst h
 exact c
theorem wide_two(x y:Value)(l m o:List UInt8)(w:World)(d:Row1 w x (l.map bval))(k:Row1 w y (m.map bval))(g:l++m=o)(j:o.length≤1099511627776)(i:GlobK5 w)(f:GlobO w):
  Calls Tryd.prog 50 #[.slice (some ⟨w.heap.size,0,none⟩) 2 2] (w.alloc (.cells #[x,y] 24)) fun e c=>e=.returned (.agg ((wideB o).map bval).toArray)∧Ext w c:=by
 have a:=Ext.alloc w (.cells #[x,y] 24)
 have h:=rwide_v _ [l,m] o _ (rowB2 (Row1.made w #[x,y] 24 _ 2 [x,y] rfl rfl rfl (by unfold maxLen;omega)) (d.below a) (k.below a)) (by rw[←g];simp) j (i.ext a) (f.ext a)
 refine h.mono fun e c b=>?_
 exact⟨b.1,a.trans b.2⟩
theorem lay_two {r s:List UInt8}(a:r.length=32)(b:s.length=32):splice ((r++List.replicate 32 (0:UInt8)).map bval) 32 (s.map bval)=((r++s).map bval):=by
 rw[splice_bytes,b]
 congr 1
 rw[List.take_append_of_le_length (by omega),q105 (by omega),List.drop_eq_nil_of_le (by simp[a]),q123]
theorem lay_one {r:List UInt8}(a:r.length=32):splice ((List.replicate 64 (0:UInt8)).map bval) 0 (r.map bval)=((r++List.replicate 32 (0:UInt8)).map bval):=by
 rw[splice_bytes,a]
 simp
theorem rsign_f(s m:List UInt8)(bv:Value)(w:World)(hs:s.length=32)(y:Row1 w bv (m.map bval))(hm:m.length≤1000000000000)(c:GlobK5 w)(hO:GlobO w)(hD:GlobD w)(D:GlobX w)(hY:GlobY w):
  Calls Tryd.prog 37 #[.agg (s.map bval).toArray,bv] w fun e r=>e=.returned (.agg ((edSign s m).map bval).toArray)∧Below w.heap.size w r:=by
 obtain⟨iq,bh,b8,be⟩:=info_two (P:=Tryd.prog) (t:=24) (z:=.slice none 0 0) (n:=1) (by kernel_rfl)
 obtain⟨bu,c4,ar⟩:=jq3 bh b8 be
 obtain⟨am,cm,bl,_⟩:=id y
 rw[q100]at bl
 subst bl
 obtain⟨ay,bi,an,ag,ah,b0⟩:=jq6 y hm hs c hO hD
 obtain⟨bg,b5,HB⟩:=jq3 D hY (boxes2 w (s.map bval) (ints .u8 (List.replicate 64 0)) 23 26)
 clear bh b8 be hs y hm c hO hD D hY
 go_enter Tryd.func37,Tryd.ntmps37
 go_upto_region 1 with(fail)
 obtain⟨H1,H2,b⟩:=HB.o
 change Code.wp _ _ _ _ ((w.alloc (.cells (s.map bval).toArray 23)).alloc (.cells (ints .u8 (List.replicate 64 0)).toArray 26))
 generalize (w.alloc (.cells (s.map bval).toArray 23)).alloc (.cells (ints .u8 (List.replicate 64 0)).toArray 26)=wa at*
 obtain⟨A,hA⟩:=nxq w.heap.size
 have i:Hid (w.heap.size≤A):=jh (by omega)
 rw[←hA]at H1 H2⊢
 obtain⟨G,g⟩:=jq2 H1 H2
 have b:Hid (Ext w wa):=jh b
 clear hA HB H1 H2
 have aj:Hid ((secA s).length=32):=jh (by unfold secA;exact zcp (by rw[q106,zdg];rfl))
 have b7:Hid ((secH s).length=32):=jh (by unfold secH;rw[q113,zdg])
 have bs:Hid (wideB (secH s++m)=edNum s m):=jh rfl
 have bf:Hid (encB (pmul (leN (edNum s m)) bP)=edR s m):=jh rfl
 have bb:Hid (nq ((leN (edNum s m):Nat)+(leN (nq ((leN (wideB (edR s m++(edPub s++m))):Nat)*(leN (secA s):Nat))):Nat))=edS s m):=jh rfl
 have bc:Hid (edR s m++edS s m=edSign s m):=jh rfl
 have ab:Hid ((edNum s m).length=32):=jh (wideB_length _)
 obtain⟨X,ak,ad,ac⟩:=jq4 (edR_length s m) (zcw s) (edS_length s m) (zeg s m)
 have ba:=jh (fun w h=>rparts_f s w an.o h)
 have bj:=jh (fun w h1 h2 h3 h4=>rpublic_f s w an.o h1 h2 h3 h4)
 obtain⟨kk,al⟩:=nxq (wideB (edR s m++(edPub s++m)))
 have ai:Hid (kk.length=32):=jh (by rw[al];exact wideB_length _)
 rw[←al]at bb
 have bq:=jh al
 clear al
 obtain⟨sg,ao⟩:=nxq (edSign s m)
 rw[←ao]at bc ac
 have bo:=jh ao
 clear ao
 generalize secA s=a at*
 generalize secH s=hh at*
 generalize edNum s m=N at*
 generalize edR s m=rd at*
 generalize edPub s=pb at*
 generalize edS s m=sd at*
 go_wp2_with (refine slb A G.o Tryd.underlying23 (zag an.o) ?_)
 refine(ba.o _ (ag.o.ext b.o)).mono ?_
 rintro e wb ⟨x,rfl,hx,y⟩
 obtain⟨G,g⟩:=xq2 G g y
 have b:=xxt b y
 obtain⟨ax,cx,bd,_⟩:=id hx
 rw[q100,b7.o]at bd
 subst bd
 have af:=jh hx
 clear hx y ba
 obtain⟨HZ,a0⟩:=jq2 (Blk.made wb (ints .u8 (List.replicate 32 0)) 23) (Ext.alloc wb (.cells (ints .u8 (List.replicate 32 0)).toArray 23))
 have Y:Hid ((a.map bval).length=(ints .u8 (List.replicate 32 0)).length):=jh (by rw[q100,aj.o,zaa];rfl)
 go_upto_region 2 with(refine ssb wb.heap.size (a.map bval) HZ.o Y.o (zag aj.o) (zac _) ?_;intro w1 M a4)
 have I:=jh (zab a0.o a4 (q101 _))
 obtain⟨Ab,q⟩:=nxq wb.heap.size
 have bw:Hid (A+1<Ab):=jh (by rw[q];exact g.o.lt)
 rw[←q]at M⊢
 have C:=jh M
 obtain⟨G,g⟩:=xq2 G g I.o
 have b:=xxt b I.o
 obtain⟨i,af⟩:=jq2 (And.intro i.o bw.o) (af.o.below I.o)
 clear M a4 HZ a0 I Y q
 have b9:=jh (ay.o.below b.o)
 go_wp2_with fail
 refine(wide_two _ _ hh m _ w1 af.o b9.o rfl (by rw[q102,b7.o];have:=bi.o;omega) (ag.o.ext b.o) (ah.o.ext b.o)).mono ?_
 rintro e w2 ⟨rfl,y⟩
 obtain⟨G,g,C⟩:=xq3 G g C y
 have b:=xxt b y
 clear y af b9
 rw[bs.o]
 obtain⟨HZ,a0⟩:=jq2 (Blk.made w2 (ints .u8 (List.replicate 32 0)) 23) (Ext.alloc w2 (.cells (ints .u8 (List.replicate 32 0)).toArray 23))
 have Y:Hid ((N.map bval).length=(ints .u8 (List.replicate 32 0)).length):=jh (by rw[q100,ab.o,zaa];rfl)
 go_upto_region 3 with(refine ssb w2.heap.size (N.map bval) HZ.o Y.o (zag ab.o) (zac _) ?_;intro E M a4)
 have I:=jh (zab a0.o a4 (q101 _))
 obtain⟨Nb,q⟩:=nxq w2.heap.size
 have br:Hid (Ab<Nb):=jh (by rw[q];exact C.o.lt)
 rw[←q]at M⊢
 have R:=jh M
 obtain⟨G,g,C⟩:=xq3 G g C I.o
 have b:=xxt b I.o
 have i:=jh (And.intro i.o br.o)
 clear M a4 HZ a0 I Y q
 have c0:=jh (erun_full (Pt.es_is bP) (m:=256) (n:=leN N) (by have:=leN_lt N;rw[ab.o]at this;exact Nat.lt_of_lt_of_eq this (by decide+kernel)))
 have cb:Hid (encB (pmul (leN N) bP)=rd):=bf
 go_upto_region 3 with(fail)
 try simp only[nm]
 go_cut [8]from 22 to 25 (fun vq wq=>∃Q,vq=.pointer (some ⟨Q,0,none⟩)∧E.heap.size≤Q∧Blk wq Q (rd.map bval) 23∧Ext E wq)
 case first=>
  have B0:Ext E E.drew:=Ext.drew _
  refine wp_region_held_drew (S:=fun r=>Ext E r) (by kernel_rfl) B0 (fun p=>?_)
  refine tke 1 (.agg ((N).map bval).toArray) rfl (sld Nb 0 (fun w h=>zau R.o h) Tryd.underlying23 (zag ab.o)) p ?_
  simp only[nm]
  refine Fl.go (f:=4) (d:=8) (zs:=zero32) (T:=23) (B:=(E).heap.size) ?_ p
  clear p
  refine Fl.step 0 rfl rfl rfl rfl rfl Tryd.zeroValue23 (fun _ _ h1 h2=>h1.trans h2) (fun _ h=>h.size) (fun z1 u K aa H c=>?_)
  have a3:Ext E z1:=B0.trans aa
  clear H
  go_simp
  refine(rbase_f _ (bg.o.ext (b.o.trans a3)) (b5.o.ext (b.o.trans a3))).mono ?_
  rintro e m1 ⟨v1,rfl,e1,b1⟩
  obtain⟨a1,c1,d1,g1,aa,z1⟩:=e1
  subst aa
  have N1:Ext E m1:=a3.trans b1
  refine c.o (.agg (ptC a1 c1 d1 g1).toArray) _ b1 N1 ?_
  clear c K u
  try simp only[nm]
  refine Fl.step 2 rfl rfl rfl rfl rfl Tryd.zeroValue23 (fun _ _ h1 h2=>h1.trans h2) (fun _ h=>h.size) (fun z2 u K a6 H c=>?_)
  have O:Ext E z2:=N1.trans a6
  clear H
  go_simp
  refine(rmany_f _ bP.es N _ (⟨_,_,_,_,rfl,z1⟩:PtV _ (bP.es)) ab.o (b0.o.ext (b.o.trans O))).mono ?_
  rintro e m2 ⟨v2,rfl,e2,Z⟩
  obtain⟨a2,c2,d2,g2,a6,z2⟩:=e2
  subst a6
  have N2:Ext E m2:=O.trans Z
  refine c.o (.agg (ptC a2 c2 d2 g2).toArray) _ Z N2 ?_
  clear c K u
  try simp only[nm]
  refine Fl.step 3 rfl rfl rfl rfl rfl Tryd.zeroValue23 (fun _ _ h1 h2=>h1.trans h2) (fun _ h=>h.size) (fun z3 u K bt H c=>?_)
  have c9:Ext E z3:=N2.trans bt
  clear H
  go_simp
  refine(written_as bf.o (rwritten_f _ _ (pmul (leN N) bP) _ (⟨_,_,_,_,rfl,z2⟩:PtV _ (erun 256 bP.es (leN N) 256)) c0.o)).mono ?_
  rintro e m3 ⟨rfl,b3⟩
  have N3:Ext E m3:=c9.trans b3
  refine c.o (.agg ((rd).map bval).toArray) _ b3 N3 ?_
  clear c K u
  try simp only[nm]
  refine Fl.last rfl rfl rfl rfl Tryd.zeroValue23 (fun _ _ h1 h2=>h1.trans h2) (fun _ h=>h.size) (fun m4 g4 b4 p l4 z4=>?_)
  try simp only[nm]
  have N4:Ext E m4:=N3.trans b4
  refine rdy 5 rfl fun K c=>?_
  refine zan (by rfl) ?_
  refine zaq _ _ _ rfl g4 ((rd).map bval) rfl rfl _ _ z4 (by rw[q100,X.o];rfl) (zag (X.o)) (zac _) ?_
  intro m5 bm c8
  have N5:Ext E m5:=zab N4 c8 l4
  refine c.o _ _ N5 (fun p=>?_)
  clear c K
  try simp only[nm]
  refine dne ?_
  go_wp2_with fail
  go_meet
  exact⟨_,rfl,l4,bm,N5⟩
 case rest=>
 obtain⟨V,rfl,a5,a7,D⟩:=hcut
 have c3:Hid (Nb<V):=jh (q109 R.o.lt a5)
 have l:=jh a7
 obtain⟨G,g,C,R⟩:=xq4 G g C R D
 have b:=xxt b D
 have i:=jh (And.intro i.o c3.o)
 clear a5 a7 D
 generalize wc=w4 at*
 go_wp2_with (refine slb A G.o Tryd.underlying23 (zag an.o) ?_)
 refine(bj.o _ (ag.o.ext b.o) (b0.o.ext b.o) (bg.o.ext b.o) (b5.o.ext b.o)).mono ?_
 rintro e w5 ⟨rfl,y⟩
 obtain⟨g,C,R,l⟩:=xq4 g C R l y
 have b:=xxt b y
 clear y G bj
 obtain⟨HZ,a0⟩:=jq2 (Blk.made w5 (ints .u8 (List.replicate 32 0)) 23) (Ext.alloc w5 (.cells (ints .u8 (List.replicate 32 0)).toArray 23))
 have Y:Hid ((pb.map bval).length=(ints .u8 (List.replicate 32 0)).length):=jh (by rw[q100,ak.o,zaa];rfl)
 go_upto_region 5 with(refine ssb w5.heap.size (pb.map bval) HZ.o Y.o (zag ak.o) (zac _) ?_;intro F M a4)
 have I:=jh (zab a0.o a4 (q101 _))
 obtain⟨Pb,q⟩:=nxq w5.heap.size
 have bn:Hid (V<Pb):=jh (by rw[q];exact l.o.lt)
 rw[←q]at M⊢
 have b6:=jh M
 obtain⟨g,C,R,l⟩:=xq4 g C R l I.o
 have b:=xxt b I.o
 have i:=jh (And.intro i.o bn.o)
 clear M a4 HZ a0 I Y q
 have bk:=jh (ay.o.below b.o)
 have aw:Hid (∀v r,Ext F r→RowB r v [rd,pb,m]→Calls Tryd.prog 50 #[v] r fun e c7=>e=.returned (.agg (kk.map bval).toArray)∧Below r.heap.size r c7):=jh (fun v r he hv=>by rw[bq.o];exact rwide_v v _ _ r hv (by simp) (by simp only[q102,X.o,ak.o];have:=bi.o;omega) (ag.o.ext (b.o.trans he)) (ah.o.ext (b.o.trans he)))
 go_upto_region 5 with(fail)
 try simp only[nm]
 go_cut [10]from 28 to 32 (fun vq wq=>∃Q,vq=.pointer (some ⟨Q,0,none⟩)∧F.heap.size≤Q∧Blk wq Q (kk.map bval) 23∧Ext F wq)
 case first=>
  have B0:Ext F F.drew:=Ext.drew _
  refine wp_region_held_drew (S:=fun r=>Ext F r) (by kernel_rfl) B0 (fun p=>?_)
  refine tke 0 (.slice (some ⟨V,0,none⟩) 32 32) rfl (zcd _ _ _ _ (.pointer (some ⟨V,0,none⟩)) (.slice (some ⟨V,0,none⟩) 32 32) none none (by rfl) rfl rfl rfl rfl (fun w=>zct Tryd.underlying23 Tryd.sizeOf5 (by omega) _ w)) p ?_
  simp only[nm]
  refine tke 1 (.slice (some ⟨Pb,0,none⟩) 32 32) rfl (zcd _ _ _ _ (.pointer (some ⟨Pb,0,none⟩)) (.slice (some ⟨Pb,0,none⟩) 32 32) none none (by rfl) rfl rfl rfl rfl (fun w=>zct Tryd.underlying23 Tryd.sizeOf5 (by omega) _ w)) p ?_
  simp only[nm]
  refine tke 2 (.slice am m.length cm) rfl (zba _ (.slice am m.length cm) (by rfl) rfl rfl) p ?_
  simp only[nm]
  refine Fl.go (f:=5) (d:=10) (zs:=zero32) (T:=23) (B:=(F).heap.size) ?_ p
  clear p
  refine Fl.step 3 rfl rfl rfl rfl rfl Tryd.zeroValue23 (fun _ _ h1 h2=>h1.trans h2) (fun _ h=>h.size) (fun z1 u K aa H c=>?_)
  have a3:Ext F z1:=B0.trans aa
  clear H
  refine zan (by rfl) ?_
  refine zbj (some 31) _ _ _ _ rfl rfl #[.slice (some ⟨V,0,none⟩) 32 32,.slice (some ⟨Pb,0,none⟩) 32 32,.slice am m.length cm] iq (.slice none 0 0) Tryd.underlying40 bu.o c4.o (by rw[ar.o];decide) (by rw[ar.o];decide) (by rw[ar.o];kernel_rfl) ?_
  obtain⟨m1,ae⟩:=nxq (World.alloc z1 (.cells #[.slice (some ⟨V,0,none⟩) 32 32,.slice (some ⟨Pb,0,none⟩) 32 32,.slice am m.length cm] 24))
  rw[←ae]
  have b1:Ext z1 m1:=by rw[ae];exact Ext.alloc _ _
  obtain⟨g1,ap⟩:=nxq ((z1).heap.size)
  rw[←ap]
  have r1:Row1 m1 (.slice (some ⟨g1,0,none⟩) 3 3) [.slice (some ⟨V,0,none⟩) 32 32,.slice (some ⟨Pb,0,none⟩) 32 32,.slice am m.length cm]:=by rw[ae,ap];exact Row1.made _ _ _ _ _ _ rfl rfl rfl (by unfold maxLen;omega)
  clear ae ap
  have N1:Ext F m1:=a3.trans b1
  refine c.o (.slice (some ⟨g1,0,none⟩) 3 3) _ b1 N1 ?_
  clear c K u
  try simp only[nm]
  refine Fl.step 4 rfl rfl rfl rfl rfl Tryd.zeroValue23 (fun _ _ h1 h2=>h1.trans h2) (fun _ h=>h.size) (fun z2 u K a6 H c=>?_)
  have r1:=r1.below a6
  have O:Ext F z2:=N1.trans a6
  clear H
  go_simp
  refine(aw.o _ _ O (rowB3 r1 ((zbv (n:=32) l.o (by rw[q100];exact X.o) (by unfold maxLen;omega)).below O) ((zbv (n:=32) b6.o (by rw[q100];exact ak.o) (by unfold maxLen;omega)).below O) ((bk.o).below O))).mono ?_
  rintro e m2 ⟨rfl,Z⟩
  have r1:=r1.below Z
  have N2:Ext F m2:=O.trans Z
  refine c.o (.agg ((kk).map bval).toArray) _ Z N2 ?_
  clear c K u
  try simp only[nm]
  refine Fl.last rfl rfl rfl rfl Tryd.zeroValue23 (fun _ _ h1 h2=>h1.trans h2) (fun _ h=>h.size) (fun m3 g3 b3 p l3 z3=>?_)
  try simp only[nm]
  have r1:=r1.below b3
  have N3:Ext F m3:=N2.trans b3
  refine rdy 6 rfl fun K c=>?_
  refine zan (by rfl) ?_
  refine zaq _ _ _ rfl g3 ((kk).map bval) rfl rfl _ _ z3 (by rw[q100,ai.o];rfl) (zag (ai.o)) (zac _) ?_
  intro m4 au aq
  have N4:Ext F m4:=zab N3 aq l3
  refine c.o _ _ N4 (fun p=>?_)
  clear c K
  try simp only[nm]
  refine dne ?_
  go_wp2_with fail
  go_meet
  exact⟨_,rfl,l3,au,N4⟩
 case rest=>
 obtain⟨Kb,rfl,a5,a7,D⟩:=hcut
 have c5:Hid (Pb<Kb):=jh (q109 b6.o.lt a5)
 have az:=jh a7
 obtain⟨g,C,R,l⟩:=xq4 g C R l D
 have b:=xxt b D
 have i:=jh (And.intro i.o c5.o)
 clear a5 a7 D
 generalize wc=L at*
 clear bk aw
 go_upto_region 6 with(fail)
 try simp only[nm]
 go_cut [11]from 33 to 37 (fun vq wq=>∃Q,vq=.pointer (some ⟨Q,0,none⟩)∧L.heap.size≤Q∧Blk wq Q (sd.map bval) 23∧Ext L wq)
 case first=>
  have B0:Ext L L.drew:=Ext.drew _
  refine wp_region_held_drew (S:=fun r=>Ext L r) (by kernel_rfl) B0 (fun p=>?_)
  refine tke 0 (.agg ((N).map bval).toArray) rfl (sld Nb 0 (fun w h=>zau R.o h) Tryd.underlying23 (zag ab.o)) p ?_
  simp only[nm]
  refine tke 1 (.agg ((kk).map bval).toArray) rfl (sld Kb 0 (fun w h=>zau az.o h) Tryd.underlying23 (zag ai.o)) p ?_
  simp only[nm]
  refine tke 2 (.agg ((a).map bval).toArray) rfl (sld Ab 0 (fun w h=>zau C.o h) Tryd.underlying23 (zag aj.o)) p ?_
  simp only[nm]
  refine Fl.go (f:=5) (d:=11) (zs:=zero32) (T:=23) (B:=(L).heap.size) ?_ p
  clear p
  refine Fl.step 3 rfl rfl rfl rfl rfl Tryd.zeroValue23 (fun _ _ h1 h2=>h1.trans h2) (fun _ h=>h.size) (fun z1 u K aa H c=>?_)
  have a3:Ext L z1:=B0.trans aa
  clear H
  go_simp
  refine(rMulQ_num kk a _ ai.o aj.o (ah.o.ext (b.o.trans a3))).mono ?_
  rintro e m1 ⟨rfl,b1⟩
  have N1:Ext L m1:=a3.trans b1
  refine c.o (.agg ((nq ((leN kk:Nat)*(leN a:Nat))).map bval).toArray) _ b1 N1 ?_
  clear c K u
  try simp only[nm]
  refine Fl.step 4 rfl rfl rfl rfl rfl Tryd.zeroValue23 (fun _ _ h1 h2=>h1.trans h2) (fun _ h=>h.size) (fun z2 u K a6 H c=>?_)
  have O:Ext L z2:=N1.trans a6
  clear H
  go_simp
  refine(add_as bb.o (rAddQ_num N (nq ((leN kk:Nat)*(leN a:Nat))) _ ab.o (nq_length _) (ah.o.ext (b.o.trans O)))).mono ?_
  rintro e m2 ⟨rfl,Z⟩
  have N2:Ext L m2:=O.trans Z
  refine c.o (.agg ((sd).map bval).toArray) _ Z N2 ?_
  clear c K u
  try simp only[nm]
  refine Fl.last rfl rfl rfl rfl Tryd.zeroValue23 (fun _ _ h1 h2=>h1.trans h2) (fun _ h=>h.size) (fun m3 g3 b3 p l3 z3=>?_)
  try simp only[nm]
  have N3:Ext L m3:=N2.trans b3
  refine rdy 6 rfl fun K c=>?_
  refine zan (by rfl) ?_
  refine zaq _ _ _ rfl g3 ((sd).map bval) rfl rfl _ _ z3 (by rw[q100,ad.o];rfl) (zag (ad.o)) (zac _) ?_
  intro m4 au aq
  have N4:Ext L m4:=zab N3 aq l3
  refine c.o _ _ N4 (fun p=>?_)
  clear c K
  try simp only[nm]
  refine dne ?_
  go_wp2_with fail
  go_meet
  exact⟨_,rfl,l3,au,N4⟩
 case rest=>
 obtain⟨Sb,rfl,a5,a7,D⟩:=hcut
 have c6:Hid (Kb<Sb):=jh (q109 az.o.lt a5)
 have J:=jh a7
 obtain⟨g,l⟩:=xq2 g l D
 have b:=xxt b D
 have i:=jh (And.intro i.o c6.o)
 clear a5 a7 D
 generalize wc=w8 at*
 have av:=Ext.alloc w8 (.cells (ints .u8 (List.replicate 64 0)).toArray 26)
 obtain⟨Gb,q⟩:=nxq w8.heap.size
 have bp:Hid (Sb<Gb):=jh (by rw[q];exact J.o.lt)
 have W:Hid (Blk (w8.alloc (.cells (ints .u8 (List.replicate 64 0)).toArray 26)) Gb ((List.replicate 64 (0:UInt8)).map bval) 26):=jh (by rw[q];exact Blk.made w8 (ints .u8 (List.replicate 64 0)) 26)
 obtain⟨g,l,J⟩:=xq3 g l J av
 have b:=xxt b av
 have i:=jh (And.intro i.o bp.o)
 clear av
 go_upto_region 8 with(fail)
 change Code.wp _ _ _ _ (w8.alloc (.cells (ints .u8 (List.replicate 64 0)).toArray 26))
 rw[←q]
 clear q
 generalize w8.alloc (.cells (ints .u8 (List.replicate 64 0)).toArray 26)=w9 at*
 refine swf 2 1 2 ?_
 refine zcs (.slice (some ⟨Gb,0,none⟩) 32 64) (by rfl) (fun w hw=>by go_simp) ?_
 simp only[nm]
 refine zcs (.slice (some ⟨V,0,none⟩) 32 32) (by rfl) (fun w hw=>by go_simp) ?_
 simp only[nm]
 refine det_nil (end_store (k:=2) rfl (by kernel_rfl) (by kernel_rfl) (by kernel_rfl) rfl (fun wy a8=>?_))
 obtain⟨g,l,J,W⟩:=xq4 g l J W a8
 have b:=xxt b a8
 clear a8
 refine zcf _ _ 24 24 rfl 5 Tryd.underlying24 u8_oneV _ _ _ _ _ _ rfl rfl Gb 0 _ _ W.o (rd.map bval) (by rw[q100,X.o];rfl) (fun _=>⟨rfl,⟨V,0,none⟩,rfl,fun j v hj=>?_⟩) (by simp[X.o,X.o]) (zac _) ?_
 ·rw[WideShapes.add_plain,q111,l.o.cell,←hj]
 intro cc a9 U
 rw[lay_one X.o]at a9
 have g:=jh (g.o.grown U (by have:=i.o;simp;omega))
 have l:=jh (l.o.grown U (by have:=i.o;simp;omega))
 have J:=jh (J.o.grown U (by have:=i.o;simp;omega))
 have b:=jh (zab b.o U (by have:=i.o;omega))
 have W:=jh a9
 clear a9 U
 generalize goInt (rd.map bval).length=gl at*
 simp only[nm]
 go_upto_region 9 with(fail)
 refine swf 2 1 2 ?_
 refine zcs (.slice (some ⟨Gb,32,none⟩) 32 32) (by rfl) (fun w hw=>by go_simp) ?_
 simp only[nm]
 refine zcs (.slice (some ⟨Sb,0,none⟩) 32 32) (by rfl) (fun w hw=>by go_simp) ?_
 simp only[nm]
 refine det_nil (end_store (k:=2) rfl (by kernel_rfl) (by kernel_rfl) (by kernel_rfl) rfl (fun wy a8=>?_))
 obtain⟨g,l,J,W⟩:=xq4 g l J W a8
 have b:=xxt b a8
 clear a8
 refine zcf _ _ 24 24 rfl 5 Tryd.underlying24 u8_oneV _ _ _ _ _ _ rfl rfl Gb 32 _ _ W.o (sd.map bval) (by rw[q100,ad.o];rfl) (fun _=>⟨rfl,⟨Sb,0,none⟩,rfl,fun j v hj=>?_⟩) (by simp[ad.o,X.o]) (zac _) ?_
 ·rw[WideShapes.add_plain,q111,J.o.cell,←hj]
 intro ca a9 U
 rw[lay_two X.o ad.o,bc.o]at a9
 have g:=jh (g.o.grown U (by have:=i.o;simp;omega))
 have l:=jh (l.o.grown U (by have:=i.o;simp;omega))
 have J:=jh (J.o.grown U (by have:=i.o;simp;omega))
 have b:=jh (zab b.o U (by have:=i.o;omega))
 have W:=jh a9
 clear a9 U
 generalize goInt (sd.map bval).length=gl at*
 simp only[nm]
 have Y:Hid ((sg.map bval).length=(ints .u8 (List.replicate 64 0)).length):=jh (by rw[q100,ac.o,zaa];rfl)
 go_wp2_with (first|(refine slb Gb W.o Tryd.underlying26 (zeb ac.o) ?_)|(refine ssb (A+1) (sg.map bval) g.o Y.o (zeb ac.o) (zac _) ?_;intro wn bz bx))
 refine bodyPost_ret (zat rfl _ (A+1) _ _ _ _ rfl bz Tryd.underlying26 (zeb ac.o)) rfl ⟨by rw[bo.o],zab b.o bx (by have:=i.o;omega)⟩
end Go.Proofs.YtgnfdonbholcdaaDoor


