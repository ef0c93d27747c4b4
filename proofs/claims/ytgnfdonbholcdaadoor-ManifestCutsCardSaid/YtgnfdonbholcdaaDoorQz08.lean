/- Lemmas. -/
import Derived.Test.YtgnfdonbholcdaaDoorQz07
namespace Go.Proofs.YtgnfdonbholcdaaDoor
set_option linter.unusedVariables false
set_option maxRecDepth 100000
set_option maxHeartbeats 32000000
set_option linter.unusedSimpArgs false
open Go.RowKit
theorem nbc_length(x:Int):(nb x).length=32:=zap _ _
theorem rread_f(n:List UInt8)(w:World)(hn:n.length=32)(hD:GlobD w)(hG:Glob w):Calls Tryd.prog 49 #[.agg (n.map bval).toArray] w fun e w'=>∃cs:List Value,e=.returned (.tuple #[.agg cs.toArray,.bool (mayB n)])∧cs.length=64∧(∀v∈cs,v.oneCell'=true)∧(∀P,encB P=n→∃s,PtV (.agg cs.toArray) s∧s.is P)∧Below w.heap.size w w':=by
 obtain⟨an,cg,co⟩:=jq3 hn hD hG
 clear hn hD hG
 have HB:=jh (boxes2 w (n.map bval) (ints .i64 (List.replicate 64 0)) 23 89)
 obtain⟨W,bm⟩:=nxq (yB n)
 obtain⟨b,I⟩:=nxq (bitN n)
 have aw:Hid (W.length=32):=jh (by rw[bm];exact maskB_length an.o)
 have cc:Hid ((n.map bval).set 31 (.int .u8 (bits .and .u8 ((n.getD 31 0).toNat:Int) 127))=W.map bval):=jh (by
  have C:=u8_and (n.getD 31 0) 127
  rw[show (127:Int)=((127:UInt8).toNat:Int)from rfl,C,u8_set,bm]
  rfl)
 have c6:((n.getD 31 0).toNat:Int) / 128=(b:Int):=by rw[I];unfold bitN;omega
 have ce:((n.getD 31 0).toNat:Int) / 2^7=(b:Int):=c6
 have bh:b<2:=by rw[I];exact bitN_lt n
 have d5:(0:Int)≤(b:Int):=Int.natCast_nonneg _
 have d4:(b:Int)<256:=by omega
 obtain⟨a4,ay⟩:=jq2 bm I
 clear bm I
 go_enter Tryd.func49,Tryd.ntmps49
 go_upto_region 1 with(fail)
 obtain⟨H1,H2,q⟩:=HB.o
 change Code.wp _ _ _ _ ((w.alloc (.cells (n.map bval).toArray 23)).alloc (.cells (ints .i64 (List.replicate 64 0)).toArray 89))
 generalize (w.alloc (.cells (n.map bval).toArray 23)).alloc (.cells (ints .i64 (List.replicate 64 0)).toArray 89)=wa at*
 obtain⟨A,hA⟩:=nxq w.heap.size
 have m:Hid (w.heap.size≤A):=jh (by omega)
 rw[←hA]at H1 H2⊢
 obtain⟨HN,D⟩:=jq2 H1 H2
 have q:Hid (Ext w wa):=jh q
 clear hA HB H1 H2
 have c1:=HN.o.cell 31
 rw[zbf (by rw[an.o];omega)]at c1
 have f1:=HN.o.free 31
 generalize ((n.getD 31 0).toNat:Int)=q1 at*
 go_upto_region 3 with(fail)
 have J:=jh (HN.o.set 31 (.int .u8 (bits .and .u8 q1 127)))
 rw[cc.o]at J
 have D:=jh (D.o.far (a:=⟨A,31,none⟩) (by simp) (.int .u8 (bits .and .u8 q1 127)))
 have q:=jh (Below.setCell q.o (p:=⟨A,31,none⟩) (by have:=m.o;simp;omega) (.int .u8 (bits .and .u8 q1 127)))
 generalize bits .and .u8 q1 127=v1 at*
 generalize wa.setCell ⟨A,31,none⟩ (.int .u8 v1)=wb at*
 have q:Hid (Ext w wb):=jh q.o
 clear c1 f1 cc c6 ce HN
 have ba:=jh (zag aw.o)
 have az:Hid ((Tryd.prog.info? 89).map (·.size)=some (ints .i64 (List.replicate 64 0)).length):=jh (by rw[zaa];kernel_rfl)
 by_cases hp:leN W<pN
 ·have bb:nb ((leN W:Nat):Int)=W:=nbc_self aw.o hp
  have ap:=jh hp
  clear hp
  have B0:Ext wb wb.drew:=Ext.drew _
  refine wp_region_held_drew (S:=fun w'=>Ext wb w') (by kernel_rfl) B0 (fun j=>?_)
  refine tke 0 (.agg ((W).map bval).toArray) rfl (sld A 0 (fun w h=>zau J.o h) Tryd.underlying23 ba.o) j ?_
  simp only[nm]
  refine tke 2 (.agg ((W).map bval).toArray) rfl (sld A 0 (fun w h=>zau J.o h) Tryd.underlying23 ba.o) j ?_
  simp only[nm]
  refine rdy 1 rfl fun K i=>?_
  go_simp
  refine(rCanon_num W _ aw.o).mono ?_
  rintro e m1 ⟨rfl,b1⟩
  have Z:Ext wb m1:=B0.trans b1
  refine i.o _ _ Z (fun j=>?_)
  clear i K
  try simp only[nm]
  refine tke 3 (.bool false) rfl (yi_neqB _ _ _ _ _ 32 _ (nb ((leN W:Nat):Int)) (W) false (by rfl) rfl (decide_eq_true bb) Tryd.underlying23 Tryd.underlying5 zdn zda zdl rfl rfl (nbc_length _) (aw.o)) j ?_
  simp only[nm]
  refine dne ?_
  have au:=jh (Z:Ext wb m1)
  obtain⟨J,D⟩:=xq2 J D au.o
  have q:=xxt q au.o
  clear au
  generalize m1=wc at*
  clear bb
  obtain⟨y,hy⟩:=nxq (fp ((leN W:Nat):Int))
  go_wp2_with (refine slb A J.o Tryd.underlying23 ba.o ?_)
  refine(rin_f W wc aw.o).mono ?_
  rintro e bi ⟨r,rfl,hr,I⟩
  obtain⟨z,hz,lz⟩:=hr.form
  subst hz
  rw[←hy]at hr
  obtain⟨J,D⟩:=xq2 J D I
  have q:=xxt q I
  clear I
  have am:=jh hy
  clear hy
  obtain⟨HZ,ao,HI⟩:=jq3 (Blk.made bi (ints .i64 (List.replicate 16 0)) 87) (Ext.alloc bi (.cells (ints .i64 (List.replicate 16 0)).toArray 87)) (zaf lz)
  have HL:Hid ((ints .i64 z).length=(ints .i64 (List.replicate 16 0)).length):=jh (by rw[zaa,lz];rfl)
  go_upto_region 6 with(refine ssb bi.heap.size (ints .i64 z) HZ.o HL.o HI.o (zai _ _) ?_;intro c4 ab X)
  have HX:=jh (zab ao.o X (q101 _))
  obtain⟨ag,hT⟩:=nxq bi.heap.size
  have ci:Hid (A+1<ag):=jh (by rw[hT];exact D.o.lt)
  rw[←hT]at ab⊢
  obtain⟨J,D⟩:=xq2 J D HX.o
  have q:=xxt q HX.o
  have V:Hid (ElB c4 ag (y)):=jh ⟨z,lz,ab,hr⟩
  have m:=jh (And.intro m.o ci.o)
  clear ab X HZ ao HX hT hr HI HL lz
  obtain⟨l,a2,aa,a9⟩:=V.o
  obtain⟨ae,F,N,af⟩:=jq4 aa a9 a2 (zaf a2)
  clear aa a9 a2
  go_wp2_with (first|(refine slb ag ae.o Tryd.underlying87 af.o ?_))
  refine(zcm c4 F.o F.o).mono ?_
  rintro e bk ⟨r,rfl,hr,I⟩
  obtain⟨z,hz,lz⟩:=hr.form
  subst hz
  have V:=jh (V.o.ext I)
  obtain⟨J,D⟩:=xq2 J D I
  have q:=xxt q I
  clear I
  obtain⟨HZ,ao,HI⟩:=jq3 (Blk.made bk (ints .i64 (List.replicate 16 0)) 87) (Ext.alloc bk (.cells (ints .i64 (List.replicate 16 0)).toArray 87)) (zaf lz)
  have HL:Hid ((ints .i64 z).length=(ints .i64 (List.replicate 16 0)).length):=jh (by rw[zaa,lz];rfl)
  go_upto_region 7 with(refine ssb bk.heap.size (ints .i64 z) HZ.o HL.o HI.o (zai _ _) ?_;intro U ab X)
  have HX:=jh (zab ao.o X (q101 _))
  obtain⟨bd,hT⟩:=nxq bk.heap.size
  have cu:Hid (ag<bd):=jh (by rw[hT];exact V.o.lt)
  rw[←hT]at ab⊢
  have V:=jh (V.o.ext HX.o)
  obtain⟨J,D⟩:=xq2 J D HX.o
  have q:=xxt q HX.o
  have a5:Hid (ElB U bd (y*y)):=jh ⟨z,lz,ab,hr⟩
  have m:=jh (And.intro m.o cu.o)
  clear ab X HZ ao HX hT hr HI HL lz
  obtain⟨cb,bn,bx,c5⟩:=a5.o
  obtain⟨c8,c3,d6,c7⟩:=jq4 bx c5 bn (zaf bn)
  clear bx c5 bn
  try go_wp2_with fail
  try simp only[nm]
  go_cut [7,8]from 27 to 40 (fun vq vb wq=>∃g f,vq=.pointer (some ⟨g,0,none⟩)∧vb=.bool (rtB ((y*y - fp 1)*fi (dF*(y*y)+fp 1)))∧U.heap.size≤g∧ElB wq g f∧(rtB ((y*y - fp 1)*fi (dF*(y*y)+fp 1))=true→f*f=(y*y - fp 1)*fi (dF*(y*y)+fp 1))∧Ext U wq)
  case first=>
   have B0:Ext U U.drew:=Ext.drew _
   refine wp_region_held_drew (S:=fun w'=>Ext U w') (by kernel_rfl) B0 (fun j=>?_)
   refine tke 0 (.agg (ints .i64 cb).toArray) rfl (sld bd 0 (fun w h=>zau c8.o h) Tryd.underlying87 c7.o) j ?_
   simp only[nm]
   refine tke 3 (.agg (ints .i64 dL).toArray) rfl (sld 3 0 (fun w h=>cg.o.ext (q.o.trans h)) Tryd.underlying87 (zaf d_el.len)) j ?_
   simp only[nm]
   refine tke 4 (.agg (ints .i64 cb).toArray) rfl (sld bd 0 (fun w h=>zau c8.o h) Tryd.underlying87 c7.o) j ?_
   simp only[nm]
   refine Fl.go (f:=14) (d:=7) (zs:=(ints .i64 (List.replicate 16 0))) (T:=87) (B:=(U).heap.size) ?_ j
   clear j
   refine Fl.step 1 rfl rfl rfl rfl rfl Tryd.zeroValue87 (fun _ _ h1 h2=>h1.trans h2) (fun _ h=>h.size) (fun z1 u K aj a7 i=>?_)
   have cw:Ext U z1:=B0.trans aj
   clear a7
   go_simp
   refine(rone_f 1 _ (by omega) (by omega)).mono ?_
   rintro e m1 ⟨v1,rfl,C,b1⟩
   obtain⟨z1,aj,L⟩:=C.form
   subst aj
   have Z:Ext U m1:=cw.trans b1
   refine i.o (.agg (ints .i64 z1).toArray) _ b1 Z ?_
   clear i K u
   try simp only[nm]
   refine Fl.step 2 rfl rfl rfl rfl rfl Tryd.zeroValue87 (fun _ _ h1 h2=>h1.trans h2) (fun _ h=>h.size) (fun z2 u K al a7 i=>?_)
   have cj:Ext U z2:=Z.trans al
   clear a7
   go_simp
   refine(rsub_f _ c3.o C).mono ?_
   rintro e m2 ⟨v2,rfl,G,b2⟩
   obtain⟨z2,al,M⟩:=G.form
   subst al
   have Q:Ext U m2:=cj.trans b2
   refine i.o (.agg (ints .i64 z2).toArray) _ b2 Q ?_
   clear i K u
   try simp only[nm]
   refine Fl.step 5 rfl rfl rfl rfl rfl Tryd.zeroValue87 (fun _ _ h1 h2=>h1.trans h2) (fun _ h=>h.size) (fun z3 u K bq a7 i=>?_)
   have d2:Ext U z3:=Q.trans bq
   clear a7
   go_simp
   refine(zcm _ d_el.el c3.o).mono ?_
   rintro e m3 ⟨v3,rfl,e3,b3⟩
   obtain⟨z3,bq,l3⟩:=e3.form
   subst bq
   have N3:Ext U m3:=d2.trans b3
   refine i.o (.agg (ints .i64 z3).toArray) _ b3 N3 ?_
   clear i K u
   try simp only[nm]
   refine Fl.step 6 rfl rfl rfl rfl rfl Tryd.zeroValue87 (fun _ _ h1 h2=>h1.trans h2) (fun _ h=>h.size) (fun z4 u K bs a7 i=>?_)
   have cq:Ext U z4:=N3.trans bs
   clear a7
   go_simp
   refine(rone_f 1 _ (by omega) (by omega)).mono ?_
   rintro e m4 ⟨v4,rfl,e4,b4⟩
   obtain⟨z4,bs,l4⟩:=e4.form
   subst bs
   have N4:Ext U m4:=cq.trans b4
   refine i.o (.agg (ints .i64 z4).toArray) _ b4 N4 ?_
   clear i K u
   try simp only[nm]
   refine Fl.step 7 rfl rfl rfl rfl rfl Tryd.zeroValue87 (fun _ _ h1 h2=>h1.trans h2) (fun _ h=>h.size) (fun z5 u K bt a7 i=>?_)
   have cr:Ext U z5:=N4.trans bt
   clear a7
   go_simp
   refine(radd_f _ e3 e4).mono ?_
   rintro e m5 ⟨v5,rfl,e5,b5⟩
   obtain⟨z5,bt,l5⟩:=e5.form
   subst bt
   have N5:Ext U m5:=cr.trans b5
   refine i.o (.agg (ints .i64 z5).toArray) _ b5 N5 ?_
   clear i K u
   try simp only[nm]
   refine Fl.step 8 rfl rfl rfl rfl rfl Tryd.zeroValue87 (fun _ _ h1 h2=>h1.trans h2) (fun _ h=>h.size) (fun z6 u K bo a7 i=>?_)
   have cf:Ext U z6:=N5.trans bo
   clear a7
   go_simp
   refine(rinv_f _ e5).mono ?_
   rintro e m6 ⟨v6,rfl,e6,b6⟩
   obtain⟨z6,bo,l6⟩:=e6.form
   subst bo
   have N6:Ext U m6:=cf.trans b6
   refine i.o (.agg (ints .i64 z6).toArray) _ b6 N6 ?_
   clear i K u
   try simp only[nm]
   refine Fl.step 9 rfl rfl rfl rfl rfl Tryd.zeroValue87 (fun _ _ h1 h2=>h1.trans h2) (fun _ h=>h.size) (fun z7 u K bw a7 i=>?_)
   have d1:Ext U z7:=N6.trans bw
   clear a7
   go_simp
   refine(zcm _ G e6).mono ?_
   rintro e m7 ⟨v7,rfl,e7,b7⟩
   obtain⟨z7,bw,l7⟩:=e7.form
   subst bw
   have N7:Ext U m7:=d1.trans b7
   refine i.o (.agg (ints .i64 z7).toArray) _ b7 N7 ?_
   clear i K u
   try simp only[nm]
   refine Fl.step 10 rfl rfl rfl rfl rfl Tryd.zeroValue87 (fun _ _ h1 h2=>h1.trans h2) (fun _ h=>h.size) (fun z8 u K bv a7 i=>?_)
   have c2:Ext U z8:=N7.trans bv
   clear a7
   go_simp
   refine(rroot_f _ e7 (co.o.ext (q.o.trans c2))).mono ?_
   rintro e m8 ⟨v8,f8,rfl,e8,q8,b8⟩
   obtain⟨z8,bv,l8⟩:=e8.form
   subst bv
   have N8:Ext U m8:=c2.trans b8
   refine i.o (.tuple #[.agg (ints .i64 z8).toArray,.bool (rtB ((y*y - fp 1)*fi (dF*(y*y)+fp 1)))]) _ b8 N8 ?_
   clear i K u
   try simp only[nm]
   refine Fl.take 11 (.tuple #[.agg (ints .i64 z8).toArray,.bool (rtB ((y*y - fp 1)*fi (dF*(y*y)+fp 1)))]) rfl (fun u=>zba _ (.tuple #[.agg (ints .i64 z8).toArray,.bool (rtB ((y*y - fp 1)*fi (dF*(y*y)+fp 1)))]) (by rfl) rfl rfl) ?_
   simp only[nm]
   refine Fl.take 12 (.agg (ints .i64 z8).toArray) rfl (fun u=>zbb (.agg (ints .i64 z8).toArray) (by rfl) (fun w _=>by go_simp)) ?_
   simp only[nm]
   refine Fl.take 13 (.bool (rtB ((y*y - fp 1)*fi (dF*(y*y)+fp 1)))) rfl (fun u=>zbb (.bool (rtB ((y*y - fp 1)*fi (dF*(y*y)+fp 1)))) (by rfl) (fun w _=>by go_simp)) ?_
   simp only[nm]
   refine Fl.last rfl rfl rfl rfl Tryd.zeroValue87 (fun _ _ h1 h2=>h1.trans h2) (fun _ h=>h.size) (fun m9 g9 b9 j l9 z9=>?_)
   try simp only[nm]
   have N9:Ext U m9:=N8.trans b9
   refine rdy 15 rfl fun K i=>?_
   refine zan (by rfl) ?_
   refine zaq _ _ _ rfl g9 (ints .i64 z8) rfl rfl _ _ z9 (by rw[zaa,l8];rfl) (zaf l8) (zai _ _) ?_
   intro cz ck d3
   have bu:Ext U cz:=zab N9 d3 l9
   refine i.o _ _ bu (fun j=>?_)
   clear i K
   try simp only[nm]
   refine rdy 16 rfl fun K i=>?_
   go_simp
   refine i.o _ _ bu (fun j=>?_)
   clear i K
   try simp only[nm]
   refine dne ?_
   go_wp2_with fail
   go_meet
   exact⟨_,f8,rfl,rfl,l9,⟨z8,l8,ck,e8⟩,q8,bu⟩
  case rest=>
   obtain⟨a3,f,rfl,rfl,ca,cd,bp,hX⟩:=hcut
   have cm:Hid (bd<a3):=jh (q109 a5.o.lt ca)
   obtain⟨V,a5⟩:=jq2 (V.o.ext hX) (a5.o.ext hX)
   obtain⟨J,D⟩:=xq2 J D hX
   have q:=xxt q hX
   obtain⟨a0,m⟩:=jq2 cd (And.intro m.o cm.o)
   clear cd hX ca
   generalize wc=cn at*
   rw[rad_eq]at bp⊢
   cases hrt:rtB (rad y)with
   |false=>
    have aq:=jh (may_no_root an.o (by rw[←a4.o];exact ap.o) (fun x hx=>by rw[←a4.o,←am.o]at hx;rw[rtB_true ⟨x,hx⟩]at hrt;cases hrt))
    go_wp2_with (refine ssb (A+1) (ints .i64 (List.replicate 64 0)) D.o rfl az.o (zai _ _) ?_;intro w9 bf bc)
    refine bodyPost_ret (zaw rfl _ (A+1) _ _ _ rfl bf Tryd.underlying89 rfl az.o) rfl ?_
    exact⟨_,by rw[mayB_false aq.o];rfl,by rw[zaa];rfl,zai _ _,fun P hP=>absurd ⟨P,hP⟩ aq.o,zab q.o bc (by have:=m.o;omega)⟩
   |true=>
    have bg:=jh (bp hrt)
    clear bp hrt
    obtain⟨k,E,R,O⟩:=a0.o
    obtain⟨Y,t,H,a1⟩:=jq4 R O E (zaf E)
    clear R O E
    go_wp2_with (refine slb a3 Y.o Tryd.underlying87 a1.o ?_)
    refine(rout_f cn t.o).mono ?_
    rintro e bl ⟨rfl,I⟩
    obtain⟨V,a5,a0⟩:=jq3 (V.o.ext I) (a5.o.ext I) (a0.o.ext I)
    obtain⟨J,D⟩:=xq2 J D I
    have q:=xxt q I
    clear I
    obtain⟨HZ,ao⟩:=jq2 (Blk.made bl (ints .u8 (List.replicate 32 0)) 23) (Ext.alloc bl (.cells (ints .u8 (List.replicate 32 0)).toArray 23))
    have HL:Hid (((nbF f).map bval).length=(ints .u8 (List.replicate 32 0)).length):=jh (by rw[q100,zbw,zaa];rfl)
    go_upto_region 11 with(refine ssb bl.heap.size ((nbF f).map bval) HZ.o HL.o (zag (zbw _)) (zac _) ?_;intro ah bh c9)
    have HX:=jh (zab ao.o c9 (q101 _))
    obtain⟨Wn,hT⟩:=nxq bl.heap.size
    have ct:Hid (a3<Wn):=jh (by rw[hT];exact a0.o.lt)
    rw[←hT]at bh⊢
    obtain⟨V,a5,a0⟩:=jq3 (V.o.ext HX.o) (a5.o.ext HX.o) (a0.o.ext HX.o)
    obtain⟨J,D⟩:=xq2 J D HX.o
    have q:=xxt q HX.o
    obtain⟨ad,m⟩:=jq2 bh (And.intro m.o ct.o)
    clear bh c9 HZ ao HX hT HL
    have ar:=jh (zbw f)
    have bj:=nbF_odd f
    by_cases f0:f=0
    ·have HQ:Hid (decide (nbF f=zer)=true):=jh (decide_eq_true (by rw[f0];exact nbF_nought))
     by_cases b1:b=1
     ·have bz:(b:Int)=1:=by omega
      have cx:=jh (may_no_f an.o (by rw[←a4.o];exact ap.o) (f:=f) (by rw[←a4.o,←am.o];exact bg.o) f0 (by rw[←ay.o];exact b1))
      clear b1 f0
      go_upto_region 12 with(first|(refine wpList_eql (by rfl) _ _ _ _ _ _ 32 _ (nbF f) zer true rfl (Or.inl ⟨rfl,HQ.o⟩) Tryd.underlying23 Tryd.underlying5 zdn zda zdl rfl rfl ar.o zer_length ?_)|(refine wpList_load_w (by rfl) _ _ rfl Wn rfl _ _ _ _ ad.o Tryd.underlying23 (zag ar.o) ?_))
      have aq:=jh (cx.o)
      go_wp2_with (refine ssb (A+1) (ints .i64 (List.replicate 64 0)) D.o rfl az.o (zai _ _) ?_;intro w9 bf bc)
      refine bodyPost_ret (zaw rfl _ (A+1) _ _ _ rfl bf Tryd.underlying89 rfl az.o) rfl ?_
      exact⟨_,by rw[mayB_false aq.o];rfl,by rw[zaa];rfl,zai _ _,fun P hP=>absurd ⟨P,hP⟩ aq.o,zab q.o bc (by have:=m.o;omega)⟩
     have bz:decide ((b:Int)=1)=false:=decide_eq_false (by omega)
     have cy:=jh b1
     have cl:¬(b:Int)=1:=by omega
     have cv:decide (b=1)=false:=decide_eq_false b1
     clear f0
     go_upto_region 13 with(first|(refine wpList_eql (by rfl) _ _ _ _ _ _ 32 _ (nbF f) zer true rfl (Or.inl ⟨rfl,HQ.o⟩) Tryd.underlying23 Tryd.underlying5 zdn zda zdl rfl rfl ar.o zer_length ?_)|(refine wpList_load_w (by rfl) _ _ rfl Wn rfl _ _ _ _ ad.o Tryd.underlying23 (zag ar.o) ?_))
     clear bz cl cv b1
     have b0:Hid (¬(f=0∧bitN n=1)):=jh (fun h=>cy.o (by rw[ay.o];exact h.2))
     have c0:=ad.o.cell 0
     rw[zbf (by rw[ar.o];omega)]at c0
     have ai:=andU1 ((nbF f).getD 0 0).toNat
     rw[bj]at ai
     generalize (((nbF f).getD 0 0).toNat:Int)=q0 at*
     clear bj
     by_cases ak:f.val%2=b
     ·have hq:bits .and .u8 q0 1=(b:Int):=by rw[ai,ak]
      have av:Hid (f=pickX f (bitN n)):=jh (by unfold pickX;rw[←ay.o,if_pos ak])
      clear ai ak
      go_upto_region 15 with(fail)
      clear hq c0
      obtain⟨k,E,R,O⟩:=a0.o
      obtain⟨Y,t,H,a1⟩:=jq4 R O E (zaf E)
      clear R O E
      obtain⟨l,a2,aa,a9⟩:=V.o
      obtain⟨ae,F,N,af⟩:=jq4 aa a9 a2 (zaf a2)
      clear aa a9 a2
      have B0:Ext ah ah.drew:=Ext.drew _
      refine wp_region_held_drew (S:=fun w'=>Far (A+1) ah w') (by kernel_rfl) (zao B0) (fun j=>?_)
      refine tke 0 (.agg (ints .i64 k).toArray) rfl (sld a3 0 (fun w h=>zas Y.o (by have:=m.o;omega) h) Tryd.underlying87 a1.o) j ?_
      simp only[nm]
      refine tke 1 (.agg (ints .i64 l).toArray) rfl (sld ag 0 (fun w h=>zas ae.o (by have:=m.o;omega) h) Tryd.underlying87 af.o) j ?_
      simp only[nm]
      refine tke 3 (.agg (ints .i64 k).toArray) rfl (sld a3 0 (fun w h=>zas Y.o (by have:=m.o;omega) h) Tryd.underlying87 a1.o) j ?_
      simp only[nm]
      refine tke 4 (.agg (ints .i64 l).toArray) rfl (sld ag 0 (fun w h=>zas ae.o (by have:=m.o;omega) h) Tryd.underlying87 af.o) j ?_
      simp only[nm]
      refine rdy 2 rfl fun K i=>?_
      go_simp
      refine(rone_f 1 _ (by omega) (by omega)).mono ?_
      rintro e m1 ⟨v1,rfl,C,b1⟩
      obtain⟨z1,aj,L⟩:=C.form
      subst aj
      have Z:Ext ah m1:=B0.trans b1
      refine i.o _ _ (zao Z) (fun j=>?_)
      clear i K
      try simp only[nm]
      refine rdy 5 rfl fun K i=>?_
      go_simp
      refine(zcm _ t.o F.o).mono ?_
      rintro e m2 ⟨v2,rfl,G,b2⟩
      obtain⟨z2,al,M⟩:=G.form
      subst al
      have Q:Ext ah m2:=Z.trans b2
      refine i.o _ _ (zao Q) (fun j=>?_)
      clear i K
      try simp only[nm]
      refine tke 6 (.agg (ptC k l z1 z2).toArray) rfl (yi_build _ _ _ _ (build_pt (⟨⟨H.o,t.o⟩,⟨N.o,F.o⟩,⟨L,C⟩,⟨M,G⟩⟩:PtZ k l z1 z2 (⟨f,y,fp 1,f*y⟩:ES))) (by rfl) rfl (by simp[Act.eval])) j ?_
      simp only[nm]
      refine rdy 7 rfl fun K i=>?_
      refine zan (by rfl) ?_
      refine zaq _ _ _ rfl (A+1) (ptC k l z1 z2) rfl rfl _ _ (zal D.o Q) (by rw[zbl ((⟨⟨H.o,t.o⟩,⟨N.o,F.o⟩,⟨L,C⟩,⟨M,G⟩⟩:PtZ k l z1 z2 (⟨f,y,fp 1,f*y⟩:ES))),zaa];rfl) (zcg ((⟨⟨H.o,t.o⟩,⟨N.o,F.o⟩,⟨L,C⟩,⟨M,G⟩⟩:PtZ k l z1 z2 (⟨f,y,fp 1,f*y⟩:ES)))) (zdp _ _ _ _) ?_
      intro m3 ax a8
      refine i.o _ _ (zbt Q a8) (fun j=>?_)
      clear i K
      try simp only[nm]
      refine rdy 8 rfl fun K i=>?_
      go_simp
      refine i.o _ _ (zbt Q a8) (fun j=>?_)
      clear i K
      try simp only[nm]
      refine dne ?_
      go_wp2_with fail
      refine bodyPost_ret (zaw rfl _ (A+1) _ _ _ rfl ax Tryd.underlying89 rfl (zcg (⟨⟨H.o,t.o⟩,⟨N.o,F.o⟩,⟨L,C⟩,⟨M,G⟩⟩:PtZ k l z1 z2 (⟨f,y,fp 1,f*y⟩:ES)))) rfl ?_
      have a6:=read_is an.o (by rw[←a4.o];exact ap.o) (f:=f) (by rw[←a4.o,←am.o];exact bg.o) b0.o av.o
      rw[←a4.o,←am.o]at a6
      exact⟨_,by rw[mayB_true a6.1];rfl,zbl (⟨⟨H.o,t.o⟩,⟨N.o,F.o⟩,⟨L,C⟩,⟨M,G⟩⟩:PtZ k l z1 z2 (⟨f,y,fp 1,f*y⟩:ES)),zdp _ _ _ _,fun P hP=>⟨(⟨f,y,fp 1,f*y⟩:ES),⟨_,_,_,_,rfl,(⟨⟨H.o,t.o⟩,⟨N.o,F.o⟩,⟨L,C⟩,⟨M,G⟩⟩:PtZ k l z1 z2 (⟨f,y,fp 1,f*y⟩:ES))⟩,a6.2 P hP⟩,zab (q.o.trans Q) a8 (by have:=m.o;omega)⟩
     obtain⟨c,hc⟩:=nxq (f.val%2)
     have hq:bits .and .u8 q0 1=(c:Int):=by rw[ai,hc]
     have be:¬(c:Int)=(b:Int):=by rw[hc];omega
     have br:decide ((c:Int)=(b:Int))=false:=decide_eq_false be
     have av:Hid (0 - f=pickX f (bitN n)):=jh (by unfold pickX;rw[←ay.o,if_neg ak,f_neg])
     clear ai ak hc
     go_upto_region 14 with(fail)
     clear hq c0 be br
     obtain⟨k,E,R,O⟩:=a0.o
     obtain⟨Y,t,H,a1⟩:=jq4 R O E (zaf E)
     clear R O E
     go_wp2_with (refine slb a3 Y.o Tryd.underlying87 a1.o ?_)
     refine(rsub_f ah el_zero t.o).mono ?_
     rintro e cp ⟨r,rfl,hr,I⟩
     obtain⟨z,hz,lz⟩:=hr.form
     subst hz
     obtain⟨V,a5,a0⟩:=jq3 (V.o.ext I) (a5.o.ext I) (a0.o.ext I)
     obtain⟨J,D,ad⟩:=xq3 J D ad I
     have q:=xxt q I
     clear I
     obtain⟨k,E,R,O⟩:=a0.o
     obtain⟨Y,t,H,a1⟩:=jq4 R O E (zaf E)
     clear R O E
     have HI:=jh (zaf lz)
     have HL:Hid ((ints .i64 z).length=(ints .i64 k).length):=jh (by rw[zaa,zaa,lz,H.o])
     go_upto_region 15 with(refine ssb a3 (ints .i64 z) Y.o HL.o HI.o (zai _ _) ?_;intro ac ab X)
     have V:=jh (V.o.grown X (by have:=m.o;simp;omega))
     have a5:=jh (a5.o.grown X (by have:=m.o;simp;omega))
     have J:=jh (J.o.grown X (by have:=m.o;simp;omega))
     have D:=jh (D.o.grown X (by have:=m.o;simp;omega))
     have ad:=jh (ad.o.grown X (by have:=m.o;simp;omega))
     have q:=jh (zab q.o X (by have:=m.o;omega))
     have a0:Hid (ElB ac a3 (0 - f)):=jh ⟨z,lz,ab,hr⟩
     clear ab X hr HI HL lz
     obtain⟨k,E,R,O⟩:=a0.o
     obtain⟨Y,t,H,a1⟩:=jq4 R O E (zaf E)
     clear R O E
     obtain⟨l,a2,aa,a9⟩:=V.o
     obtain⟨ae,F,N,af⟩:=jq4 aa a9 a2 (zaf a2)
     clear aa a9 a2
     have B0:Ext ac ac.drew:=Ext.drew _
     refine wp_region_held_drew (S:=fun w'=>Far (A+1) ac w') (by kernel_rfl) (zao B0) (fun j=>?_)
     refine tke 0 (.agg (ints .i64 k).toArray) rfl (sld a3 0 (fun w h=>zas Y.o (by have:=m.o;omega) h) Tryd.underlying87 a1.o) j ?_
     simp only[nm]
     refine tke 1 (.agg (ints .i64 l).toArray) rfl (sld ag 0 (fun w h=>zas ae.o (by have:=m.o;omega) h) Tryd.underlying87 af.o) j ?_
     simp only[nm]
     refine tke 3 (.agg (ints .i64 k).toArray) rfl (sld a3 0 (fun w h=>zas Y.o (by have:=m.o;omega) h) Tryd.underlying87 a1.o) j ?_
     simp only[nm]
     refine tke 4 (.agg (ints .i64 l).toArray) rfl (sld ag 0 (fun w h=>zas ae.o (by have:=m.o;omega) h) Tryd.underlying87 af.o) j ?_
     simp only[nm]
     refine rdy 2 rfl fun K i=>?_
     go_simp
     refine(rone_f 1 _ (by omega) (by omega)).mono ?_
     rintro e m1 ⟨v1,rfl,C,b1⟩
     obtain⟨z1,aj,L⟩:=C.form
     subst aj
     have Z:Ext ac m1:=B0.trans b1
     refine i.o _ _ (zao Z) (fun j=>?_)
     clear i K
     try simp only[nm]
     refine rdy 5 rfl fun K i=>?_
     go_simp
     refine(zcm _ t.o F.o).mono ?_
     rintro e m2 ⟨v2,rfl,G,b2⟩
     obtain⟨z2,al,M⟩:=G.form
     subst al
     have Q:Ext ac m2:=Z.trans b2
     refine i.o _ _ (zao Q) (fun j=>?_)
     clear i K
     try simp only[nm]
     refine tke 6 (.agg (ptC k l z1 z2).toArray) rfl (yi_build _ _ _ _ (build_pt (⟨⟨H.o,t.o⟩,⟨N.o,F.o⟩,⟨L,C⟩,⟨M,G⟩⟩:PtZ k l z1 z2 (⟨(0 - f),y,fp 1,(0 - f)*y⟩:ES))) (by rfl) rfl (by simp[Act.eval])) j ?_
     simp only[nm]
     refine rdy 7 rfl fun K i=>?_
     refine zan (by rfl) ?_
     refine zaq _ _ _ rfl (A+1) (ptC k l z1 z2) rfl rfl _ _ (zal D.o Q) (by rw[zbl ((⟨⟨H.o,t.o⟩,⟨N.o,F.o⟩,⟨L,C⟩,⟨M,G⟩⟩:PtZ k l z1 z2 (⟨(0 - f),y,fp 1,(0 - f)*y⟩:ES))),zaa];rfl) (zcg ((⟨⟨H.o,t.o⟩,⟨N.o,F.o⟩,⟨L,C⟩,⟨M,G⟩⟩:PtZ k l z1 z2 (⟨(0 - f),y,fp 1,(0 - f)*y⟩:ES)))) (zdp _ _ _ _) ?_
     intro m3 ax a8
     refine i.o _ _ (zbt Q a8) (fun j=>?_)
     clear i K
     try simp only[nm]
     refine rdy 8 rfl fun K i=>?_
     go_simp
     refine i.o _ _ (zbt Q a8) (fun j=>?_)
     clear i K
     try simp only[nm]
     refine dne ?_
     go_wp2_with fail
     refine bodyPost_ret (zaw rfl _ (A+1) _ _ _ rfl ax Tryd.underlying89 rfl (zcg (⟨⟨H.o,t.o⟩,⟨N.o,F.o⟩,⟨L,C⟩,⟨M,G⟩⟩:PtZ k l z1 z2 (⟨(0 - f),y,fp 1,(0 - f)*y⟩:ES)))) rfl ?_
     have a6:=read_is an.o (by rw[←a4.o];exact ap.o) (f:=f) (by rw[←a4.o,←am.o];exact bg.o) b0.o av.o
     rw[←a4.o,←am.o]at a6
     exact⟨_,by rw[mayB_true a6.1];rfl,zbl (⟨⟨H.o,t.o⟩,⟨N.o,F.o⟩,⟨L,C⟩,⟨M,G⟩⟩:PtZ k l z1 z2 (⟨(0 - f),y,fp 1,(0 - f)*y⟩:ES)),zdp _ _ _ _,fun P hP=>⟨(⟨(0 - f),y,fp 1,(0 - f)*y⟩:ES),⟨_,_,_,_,rfl,(⟨⟨H.o,t.o⟩,⟨N.o,F.o⟩,⟨L,C⟩,⟨M,G⟩⟩:PtZ k l z1 z2 (⟨(0 - f),y,fp 1,(0 - f)*y⟩:ES))⟩,a6.2 P hP⟩,zab (q.o.trans Q) a8 (by have:=m.o;omega)⟩
    have HQ:Hid (decide (nbF f=zer)=false):=jh (decide_eq_false (fun h=>f0 (nbF_zer h)))
    have d0:=jh f0
    clear f0
    go_upto_region 13 with(first|(refine wpList_eql (by rfl) _ _ _ _ _ _ 32 _ (nbF f) zer false rfl (Or.inl ⟨rfl,HQ.o⟩) Tryd.underlying23 Tryd.underlying5 zdn zda zdl rfl rfl ar.o zer_length ?_)|(refine wpList_load_w (by rfl) _ _ rfl Wn rfl _ _ _ _ ad.o Tryd.underlying23 (zag ar.o) ?_))
    have b0:Hid (¬(f=0∧bitN n=1)):=jh (fun h=>d0.o h.1)
    have c0:=ad.o.cell 0
    rw[zbf (by rw[ar.o];omega)]at c0
    have ai:=andU1 ((nbF f).getD 0 0).toNat
    rw[bj]at ai
    generalize (((nbF f).getD 0 0).toNat:Int)=q0 at*
    clear bj
    by_cases ak:f.val%2=b
    ·have hq:bits .and .u8 q0 1=(b:Int):=by rw[ai,ak]
     have av:Hid (f=pickX f (bitN n)):=jh (by unfold pickX;rw[←ay.o,if_pos ak])
     clear ai ak
     go_upto_region 15 with(fail)
     clear hq c0
     obtain⟨k,E,R,O⟩:=a0.o
     obtain⟨Y,t,H,a1⟩:=jq4 R O E (zaf E)
     clear R O E
     obtain⟨l,a2,aa,a9⟩:=V.o
     obtain⟨ae,F,N,af⟩:=jq4 aa a9 a2 (zaf a2)
     clear aa a9 a2
     have B0:Ext ah ah.drew:=Ext.drew _
     refine wp_region_held_drew (S:=fun w'=>Far (A+1) ah w') (by kernel_rfl) (zao B0) (fun j=>?_)
     refine tke 0 (.agg (ints .i64 k).toArray) rfl (sld a3 0 (fun w h=>zas Y.o (by have:=m.o;omega) h) Tryd.underlying87 a1.o) j ?_
     simp only[nm]
     refine tke 1 (.agg (ints .i64 l).toArray) rfl (sld ag 0 (fun w h=>zas ae.o (by have:=m.o;omega) h) Tryd.underlying87 af.o) j ?_
     simp only[nm]
     refine tke 3 (.agg (ints .i64 k).toArray) rfl (sld a3 0 (fun w h=>zas Y.o (by have:=m.o;omega) h) Tryd.underlying87 a1.o) j ?_
     simp only[nm]
     refine tke 4 (.agg (ints .i64 l).toArray) rfl (sld ag 0 (fun w h=>zas ae.o (by have:=m.o;omega) h) Tryd.underlying87 af.o) j ?_
     simp only[nm]
     refine rdy 2 rfl fun K i=>?_
     go_simp
     refine(rone_f 1 _ (by omega) (by omega)).mono ?_
     rintro e m1 ⟨v1,rfl,C,b1⟩
     obtain⟨z1,aj,L⟩:=C.form
     subst aj
     have Z:Ext ah m1:=B0.trans b1
     refine i.o _ _ (zao Z) (fun j=>?_)
     clear i K
     try simp only[nm]
     refine rdy 5 rfl fun K i=>?_
     go_simp
     refine(zcm _ t.o F.o).mono ?_
     rintro e m2 ⟨v2,rfl,G,b2⟩
     obtain⟨z2,al,M⟩:=G.form
     subst al
     have Q:Ext ah m2:=Z.trans b2
     refine i.o _ _ (zao Q) (fun j=>?_)
     clear i K
     try simp only[nm]
     refine tke 6 (.agg (ptC k l z1 z2).toArray) rfl (yi_build _ _ _ _ (build_pt (⟨⟨H.o,t.o⟩,⟨N.o,F.o⟩,⟨L,C⟩,⟨M,G⟩⟩:PtZ k l z1 z2 (⟨f,y,fp 1,f*y⟩:ES))) (by rfl) rfl (by simp[Act.eval])) j ?_
     simp only[nm]
     refine rdy 7 rfl fun K i=>?_
     refine zan (by rfl) ?_
     refine zaq _ _ _ rfl (A+1) (ptC k l z1 z2) rfl rfl _ _ (zal D.o Q) (by rw[zbl ((⟨⟨H.o,t.o⟩,⟨N.o,F.o⟩,⟨L,C⟩,⟨M,G⟩⟩:PtZ k l z1 z2 (⟨f,y,fp 1,f*y⟩:ES))),zaa];rfl) (zcg ((⟨⟨H.o,t.o⟩,⟨N.o,F.o⟩,⟨L,C⟩,⟨M,G⟩⟩:PtZ k l z1 z2 (⟨f,y,fp 1,f*y⟩:ES)))) (zdp _ _ _ _) ?_
     intro m3 ax a8
     refine i.o _ _ (zbt Q a8) (fun j=>?_)
     clear i K
     try simp only[nm]
     refine rdy 8 rfl fun K i=>?_
     go_simp
     refine i.o _ _ (zbt Q a8) (fun j=>?_)
     clear i K
     try simp only[nm]
     refine dne ?_
     go_wp2_with fail
     refine bodyPost_ret (zaw rfl _ (A+1) _ _ _ rfl ax Tryd.underlying89 rfl (zcg (⟨⟨H.o,t.o⟩,⟨N.o,F.o⟩,⟨L,C⟩,⟨M,G⟩⟩:PtZ k l z1 z2 (⟨f,y,fp 1,f*y⟩:ES)))) rfl ?_
     have a6:=read_is an.o (by rw[←a4.o];exact ap.o) (f:=f) (by rw[←a4.o,←am.o];exact bg.o) b0.o av.o
     rw[←a4.o,←am.o]at a6
     exact⟨_,by rw[mayB_true a6.1];rfl,zbl (⟨⟨H.o,t.o⟩,⟨N.o,F.o⟩,⟨L,C⟩,⟨M,G⟩⟩:PtZ k l z1 z2 (⟨f,y,fp 1,f*y⟩:ES)),zdp _ _ _ _,fun P hP=>⟨(⟨f,y,fp 1,f*y⟩:ES),⟨_,_,_,_,rfl,(⟨⟨H.o,t.o⟩,⟨N.o,F.o⟩,⟨L,C⟩,⟨M,G⟩⟩:PtZ k l z1 z2 (⟨f,y,fp 1,f*y⟩:ES))⟩,a6.2 P hP⟩,zab (q.o.trans Q) a8 (by have:=m.o;omega)⟩
    obtain⟨c,hc⟩:=nxq (f.val%2)
    have hq:bits .and .u8 q0 1=(c:Int):=by rw[ai,hc]
    have be:¬(c:Int)=(b:Int):=by rw[hc];omega
    have br:decide ((c:Int)=(b:Int))=false:=decide_eq_false be
    have av:Hid (0 - f=pickX f (bitN n)):=jh (by unfold pickX;rw[←ay.o,if_neg ak,f_neg])
    clear ai ak hc
    go_upto_region 14 with(fail)
    clear hq c0 be br
    obtain⟨k,E,R,O⟩:=a0.o
    obtain⟨Y,t,H,a1⟩:=jq4 R O E (zaf E)
    clear R O E
    go_wp2_with (refine slb a3 Y.o Tryd.underlying87 a1.o ?_)
    refine(rsub_f ah el_zero t.o).mono ?_
    rintro e cp ⟨r,rfl,hr,I⟩
    obtain⟨z,hz,lz⟩:=hr.form
    subst hz
    obtain⟨V,a5,a0⟩:=jq3 (V.o.ext I) (a5.o.ext I) (a0.o.ext I)
    obtain⟨J,D,ad⟩:=xq3 J D ad I
    have q:=xxt q I
    clear I
    obtain⟨k,E,R,O⟩:=a0.o
    obtain⟨Y,t,H,a1⟩:=jq4 R O E (zaf E)
    clear R O E
    have HI:=jh (zaf lz)
    have HL:Hid ((ints .i64 z).length=(ints .i64 k).length):=jh (by rw[zaa,zaa,lz,H.o])
    go_upto_region 15 with(refine ssb a3 (ints .i64 z) Y.o HL.o HI.o (zai _ _) ?_;intro ac ab X)
    have V:=jh (V.o.grown X (by have:=m.o;simp;omega))
    have a5:=jh (a5.o.grown X (by have:=m.o;simp;omega))
    have J:=jh (J.o.grown X (by have:=m.o;simp;omega))
    have D:=jh (D.o.grown X (by have:=m.o;simp;omega))
    have ad:=jh (ad.o.grown X (by have:=m.o;simp;omega))
    have q:=jh (zab q.o X (by have:=m.o;omega))
    have a0:Hid (ElB ac a3 (0 - f)):=jh ⟨z,lz,ab,hr⟩
    clear ab X hr HI HL lz
    obtain⟨k,E,R,O⟩:=a0.o
    obtain⟨Y,t,H,a1⟩:=jq4 R O E (zaf E)
    clear R O E
    obtain⟨l,a2,aa,a9⟩:=V.o
    obtain⟨ae,F,N,af⟩:=jq4 aa a9 a2 (zaf a2)
    clear aa a9 a2
    have B0:Ext ac ac.drew:=Ext.drew _
    refine wp_region_held_drew (S:=fun w'=>Far (A+1) ac w') (by kernel_rfl) (zao B0) (fun j=>?_)
    refine tke 0 (.agg (ints .i64 k).toArray) rfl (sld a3 0 (fun w h=>zas Y.o (by have:=m.o;omega) h) Tryd.underlying87 a1.o) j ?_
    simp only[nm]
    refine tke 1 (.agg (ints .i64 l).toArray) rfl (sld ag 0 (fun w h=>zas ae.o (by have:=m.o;omega) h) Tryd.underlying87 af.o) j ?_
    simp only[nm]
    refine tke 3 (.agg (ints .i64 k).toArray) rfl (sld a3 0 (fun w h=>zas Y.o (by have:=m.o;omega) h) Tryd.underlying87 a1.o) j ?_
    simp only[nm]
    refine tke 4 (.agg (ints .i64 l).toArray) rfl (sld ag 0 (fun w h=>zas ae.o (by have:=m.o;omega) h) Tryd.underlying87 af.o) j ?_
    simp only[nm]
    refine rdy 2 rfl fun K i=>?_
    go_simp
    refine(rone_f 1 _ (by omega) (by omega)).mono ?_
    rintro e m1 ⟨v1,rfl,C,b1⟩
    obtain⟨z1,aj,L⟩:=C.form
    subst aj
    have Z:Ext ac m1:=B0.trans b1
    refine i.o _ _ (zao Z) (fun j=>?_)
    clear i K
    try simp only[nm]
    refine rdy 5 rfl fun K i=>?_
    go_simp
    refine(zcm _ t.o F.o).mono ?_
    rintro e m2 ⟨v2,rfl,G,b2⟩
    obtain⟨z2,al,M⟩:=G.form
    subst al
    have Q:Ext ac m2:=Z.trans b2
    refine i.o _ _ (zao Q) (fun j=>?_)
    clear i K
    try simp only[nm]
    refine tke 6 (.agg (ptC k l z1 z2).toArray) rfl (yi_build _ _ _ _ (build_pt (⟨⟨H.o,t.o⟩,⟨N.o,F.o⟩,⟨L,C⟩,⟨M,G⟩⟩:PtZ k l z1 z2 (⟨(0 - f),y,fp 1,(0 - f)*y⟩:ES))) (by rfl) rfl (by simp[Act.eval])) j ?_
    simp only[nm]
    refine rdy 7 rfl fun K i=>?_
    refine zan (by rfl) ?_
    refine zaq _ _ _ rfl (A+1) (ptC k l z1 z2) rfl rfl _ _ (zal D.o Q) (by rw[zbl ((⟨⟨H.o,t.o⟩,⟨N.o,F.o⟩,⟨L,C⟩,⟨M,G⟩⟩:PtZ k l z1 z2 (⟨(0 - f),y,fp 1,(0 - f)*y⟩:ES))),zaa];rfl) (zcg ((⟨⟨H.o,t.o⟩,⟨N.o,F.o⟩,⟨L,C⟩,⟨M,G⟩⟩:PtZ k l z1 z2 (⟨(0 - f),y,fp 1,(0 - f)*y⟩:ES)))) (zdp _ _ _ _) ?_
    intro m3 ax a8
    refine i.o _ _ (zbt Q a8) (fun j=>?_)
    clear i K
    try simp only[nm]
    refine rdy 8 rfl fun K i=>?_
    go_simp
    refine i.o _ _ (zbt Q a8) (fun j=>?_)
    clear i K
    try simp only[nm]
    refine dne ?_
    go_wp2_with fail
    refine bodyPost_ret (zaw rfl _ (A+1) _ _ _ rfl ax Tryd.underlying89 rfl (zcg (⟨⟨H.o,t.o⟩,⟨N.o,F.o⟩,⟨L,C⟩,⟨M,G⟩⟩:PtZ k l z1 z2 (⟨(0 - f),y,fp 1,(0 - f)*y⟩:ES)))) rfl ?_
    have a6:=read_is an.o (by rw[←a4.o];exact ap.o) (f:=f) (by rw[←a4.o,←am.o];exact bg.o) b0.o av.o
    rw[←a4.o,←am.o]at a6
    exact⟨_,by rw[mayB_true a6.1];rfl,zbl (⟨⟨H.o,t.o⟩,⟨N.o,F.o⟩,⟨L,C⟩,⟨M,G⟩⟩:PtZ k l z1 z2 (⟨(0 - f),y,fp 1,(0 - f)*y⟩:ES)),zdp _ _ _ _,fun P hP=>⟨(⟨(0 - f),y,fp 1,(0 - f)*y⟩:ES),⟨_,_,_,_,rfl,(⟨⟨H.o,t.o⟩,⟨N.o,F.o⟩,⟨L,C⟩,⟨M,G⟩⟩:PtZ k l z1 z2 (⟨(0 - f),y,fp 1,(0 - f)*y⟩:ES))⟩,a6.2 P hP⟩,zab (q.o.trans Q) a8 (by have:=m.o;omega)⟩
 have bb:¬nb ((leN W:Nat):Int)=W:=nbc_not (by omega)
 have B0:Ext wb wb.drew:=Ext.drew _
 refine wp_region_held_drew (S:=fun w'=>Ext wb w') (by kernel_rfl) B0 (fun j=>?_)
 refine tke 0 (.agg ((W).map bval).toArray) rfl (sld A 0 (fun w h=>zau J.o h) Tryd.underlying23 ba.o) j ?_
 simp only[nm]
 refine tke 2 (.agg ((W).map bval).toArray) rfl (sld A 0 (fun w h=>zau J.o h) Tryd.underlying23 ba.o) j ?_
 simp only[nm]
 refine rdy 1 rfl fun K i=>?_
 go_simp
 refine(rCanon_num W _ aw.o).mono ?_
 rintro e m1 ⟨rfl,b1⟩
 have Z:Ext wb m1:=B0.trans b1
 refine i.o _ _ Z (fun j=>?_)
 clear i K
 try simp only[nm]
 refine tke 3 (.bool true) rfl (yi_neqB _ _ _ _ _ 32 _ (nb ((leN W:Nat):Int)) (W) true (by rfl) rfl (decide_eq_false bb) Tryd.underlying23 Tryd.underlying5 zdn zda zdl rfl rfl (nbc_length _) (aw.o)) j ?_
 simp only[nm]
 refine dne ?_
 have au:=jh (Z:Ext wb m1)
 obtain⟨J,D⟩:=xq2 J D au.o
 have q:=xxt q au.o
 clear au
 generalize m1=wc at*
 have ap:Hid (pN≤leN W):=jh (by omega)
 clear bb hp
 have aq:=jh (may_no_y an.o (by rw[←a4.o];exact ap.o))
 go_wp2_with (refine ssb (A+1) (ints .i64 (List.replicate 64 0)) D.o rfl az.o (zai _ _) ?_;intro w9 bf bc)
 refine bodyPost_ret (zaw rfl _ (A+1) _ _ _ rfl bf Tryd.underlying89 rfl az.o) rfl ?_
 exact⟨_,by rw[mayB_false aq.o];rfl,by rw[zaa];rfl,zai _ _,fun P hP=>absurd ⟨P,hP⟩ aq.o,zab q.o bc (by have:=m.o;omega)⟩
end Go.Proofs.YtgnfdonbholcdaaDoor


