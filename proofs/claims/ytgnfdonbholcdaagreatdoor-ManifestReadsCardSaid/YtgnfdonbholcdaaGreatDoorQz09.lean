/- Lemmas. -/
import Derived.Test.YtgnfdonbholcdaaGreatDoorQz08
namespace Go.Proofs.YtgnfdonbholcdaaGreatDoor
set_option linter.unusedVariables false
set_option maxRecDepth 100000
set_option maxHeartbeats 32000000
set_option linter.unusedSimpArgs false
open Go.RowKit
theorem nbc_length(x:Int):(nb x).length=32:=zaq _ _
theorem rread_f(n:List UInt8)(w:World)(hn:n.length=32)(hD:GlobD w)(hG:Glob w):Calls Tryz.prog 90 #[.agg (n.map bval).toArray] w fun e w'=>∃cs:List Value,e=.returned (.tuple #[.agg cs.toArray,.bool (mayB n)])∧cs.length=64∧(∀v∈cs,v.oneCell'=true)∧(∀P,encB P=n→∃s,PtV (.agg cs.toArray) s∧s.is P)∧Below w.heap.size w w':=by
 obtain⟨an,ct,cr⟩:=jq3 hn hD hG
 clear hn hD hG
 have HB:=jh (boxes2 w (n.map bval) (ints .i64 (List.replicate 64 0)) 23 126)
 obtain⟨Z,bl⟩:=nxq (yB n)
 obtain⟨b,G⟩:=nxq (bitN n)
 have au:Hid (Z.length=32):=jh (by rw[bl];exact maskB_length an.o)
 have c3:Hid ((n.map bval).set 31 (.int .u8 (bits .and .u8 ((n.getD 31 0).toNat:Int) 127))=Z.map bval):=jh (by
  have D:=u8_and (n.getD 31 0) 127
  rw[show (127:Int)=((127:UInt8).toNat:Int)from rfl,D,u8_set,bl]
  rfl)
 have c5:((n.getD 31 0).toNat:Int) / 128=(b:Int):=by rw[G];unfold bitN;omega
 have co:((n.getD 31 0).toNat:Int) / 2^7=(b:Int):=c5
 have bj:b<2:=by rw[G];exact bitN_lt n
 have d6:(0:Int)≤(b:Int):=Int.natCast_nonneg _
 have d5:(b:Int)<256:=by omega
 obtain⟨a3,ay⟩:=jq2 bl G
 clear bl G
 go_enter Tryz.func90,Tryz.ntmps90
 go_upto_region 1 with(fail)
 obtain⟨H1,H2,q⟩:=HB.o
 change Code.wp _ _ _ _ ((w.alloc (.cells (n.map bval).toArray 23)).alloc (.cells (ints .i64 (List.replicate 64 0)).toArray 126))
 generalize (w.alloc (.cells (n.map bval).toArray 23)).alloc (.cells (ints .i64 (List.replicate 64 0)).toArray 126)=wa at*
 obtain⟨A,hA⟩:=nxq w.heap.size
 have l:Hid (w.heap.size≤A):=jh (by omega)
 rw[←hA]at H1 H2⊢
 obtain⟨HN,C⟩:=jq2 H1 H2
 have q:Hid (Ext w wa):=jh q
 clear hA HB H1 H2
 have c1:=HN.o.cell 31
 rw[zbg (by rw[an.o];omega)]at c1
 have f1:=HN.o.free 31
 generalize ((n.getD 31 0).toNat:Int)=q1 at*
 go_upto_region 3 with(fail)
 have J:=jh (HN.o.set 31 (.int .u8 (bits .and .u8 q1 127)))
 rw[c3.o]at J
 have C:=jh (C.o.far (a:=⟨A,31,none⟩) (by simp) (.int .u8 (bits .and .u8 q1 127)))
 have q:=jh (Below.setCell q.o (p:=⟨A,31,none⟩) (by have:=l.o;simp;omega) (.int .u8 (bits .and .u8 q1 127)))
 generalize bits .and .u8 q1 127=v1 at*
 generalize wa.setCell ⟨A,31,none⟩ (.int .u8 v1)=wb at*
 have q:Hid (Ext w wb):=jh q.o
 clear c1 f1 c3 c5 co HN
 have bb:=jh (zaf au.o)
 have az:Hid ((Tryz.prog.info? 126).map (·.size)=some (ints .i64 (List.replicate 64 0)).length):=jh (by rw[zaa];kernel_rfl)
 by_cases hp:leN Z<pN
 ·have be:nb ((leN Z:Nat):Int)=Z:=nbc_self au.o hp
  have ao:=jh hp
  clear hp
  have W:Ext wb wb.drew:=Ext.drew _
  refine wp_region_held_drew (S:=fun w'=>Ext wb w') (by kernel_rfl) W (fun j=>?_)
  refine tke 0 (.agg ((Z).map bval).toArray) rfl (sld A 0 (fun w h=>zax J.o h) q102 bb.o) j ?_
  simp only[nm]
  refine tke 2 (.agg ((Z).map bval).toArray) rfl (sld A 0 (fun w h=>zax J.o h) q102 bb.o) j ?_
  simp only[nm]
  refine rdy 1 rfl fun K i=>?_
  go_simp
  refine(rCanon_num Z _ au.o).mono ?_
  rintro e m1 ⟨rfl,b1⟩
  have N1:Ext wb m1:=W.trans b1
  refine i.o _ _ N1 (fun j=>?_)
  clear i K
  try simp only[nm]
  refine tke 3 (.bool false) rfl (yi_neqB _ _ _ _ _ 32 _ (nb ((leN Z:Nat):Int)) (Z) false (by rfl) rfl (decide_eq_true be) q102 q113 zdq zcd zdn rfl rfl (nbc_length _) (au.o)) j ?_
  simp only[nm]
  refine dne ?_
  have av:=jh (N1:Ext wb m1)
  obtain⟨J,C⟩:=xq2 J C av.o
  have q:=xxt q av.o
  clear av
  generalize m1=wc at*
  clear be
  obtain⟨y,hy⟩:=nxq (fp ((leN Z:Nat):Int))
  go_wp2_with (refine slb A J.o q102 bb.o ?_)
  refine(rin_f Z wc au.o).mono ?_
  rintro e bm ⟨r,rfl,hr,G⟩
  obtain⟨z,hz,lz⟩:=hr.form
  subst hz
  rw[←hy]at hr
  obtain⟨J,C⟩:=xq2 J C G
  have q:=xxt q G
  clear G
  have am:=jh hy
  clear hy
  obtain⟨HZ,ap,HI⟩:=jq3 (Blk.made bm (ints .i64 (List.replicate 16 0)) 124) (Ext.alloc bm (.cells (ints .i64 (List.replicate 16 0)).toArray 124)) (zag lz)
  have HL:Hid ((ints .i64 z).length=(ints .i64 (List.replicate 16 0)).length):=jh (by rw[zaa,lz];rfl)
  go_upto_region 6 with(refine ssb bm.heap.size (ints .i64 z) HZ.o HL.o HI.o (zah _ _) ?_;intro c8 ab X)
  have HX:=jh (zab ap.o X (q101 _))
  obtain⟨ag,hT⟩:=nxq bm.heap.size
  have ci:Hid (A+1<ag):=jh (by rw[hT];exact C.o.lt)
  rw[←hT]at ab⊢
  obtain⟨J,C⟩:=xq2 J C HX.o
  have q:=xxt q HX.o
  have V:Hid (ElB c8 ag (y)):=jh ⟨z,lz,ab,hr⟩
  have l:=jh (And.intro l.o ci.o)
  clear ab X HZ ap HX hT hr HI HL lz
  obtain⟨m,a1,aa,a9⟩:=V.o
  obtain⟨ad,I,N,ac⟩:=jq4 aa a9 a1 (zag a1)
  clear aa a9 a1
  go_wp2_with (first|(refine slb ag ad.o q103 ac.o ?_))
  refine(zcu c8 I.o I.o).mono ?_
  rintro e bk ⟨r,rfl,hr,G⟩
  obtain⟨z,hz,lz⟩:=hr.form
  subst hz
  have V:=jh (V.o.ext G)
  obtain⟨J,C⟩:=xq2 J C G
  have q:=xxt q G
  clear G
  obtain⟨HZ,ap,HI⟩:=jq3 (Blk.made bk (ints .i64 (List.replicate 16 0)) 124) (Ext.alloc bk (.cells (ints .i64 (List.replicate 16 0)).toArray 124)) (zag lz)
  have HL:Hid ((ints .i64 z).length=(ints .i64 (List.replicate 16 0)).length):=jh (by rw[zaa,lz];rfl)
  go_upto_region 7 with(refine ssb bk.heap.size (ints .i64 z) HZ.o HL.o HI.o (zah _ _) ?_;intro U ab X)
  have HX:=jh (zab ap.o X (q101 _))
  obtain⟨bf,hT⟩:=nxq bk.heap.size
  have cj:Hid (ag<bf):=jh (by rw[hT];exact V.o.lt)
  rw[←hT]at ab⊢
  have V:=jh (V.o.ext HX.o)
  obtain⟨J,C⟩:=xq2 J C HX.o
  have q:=xxt q HX.o
  have a5:Hid (ElB U bf (y*y)):=jh ⟨z,lz,ab,hr⟩
  have l:=jh (And.intro l.o cj.o)
  clear ab X HZ ap HX hT hr HI HL lz
  obtain⟨bx,bs,ca,c4⟩:=a5.o
  obtain⟨cd,cb,d4,c9⟩:=jq4 ca c4 bs (zag bs)
  clear ca c4 bs
  try go_wp2_with fail
  try simp only[nm]
  go_cut [7,8]from 27 to 40 (fun vq vb wq=>∃g f,vq=.pointer (some ⟨g,0,none⟩)∧vb=.bool (rtB ((y*y - fp 1)*fi (dF*(y*y)+fp 1)))∧U.heap.size≤g∧ElB wq g f∧(rtB ((y*y - fp 1)*fi (dF*(y*y)+fp 1))=true→f*f=(y*y - fp 1)*fi (dF*(y*y)+fp 1))∧Ext U wq)
  case first=>
   have W:Ext U U.drew:=Ext.drew _
   refine wp_region_held_drew (S:=fun w'=>Ext U w') (by kernel_rfl) W (fun j=>?_)
   refine tke 0 (.agg (ints .i64 bx).toArray) rfl (sld bf 0 (fun w h=>zax cd.o h) q103 c9.o) j ?_
   simp only[nm]
   refine tke 3 (.agg (ints .i64 dL).toArray) rfl (sld 5 0 (fun w h=>ct.o.ext (q.o.trans h)) q103 (zag d_el.len)) j ?_
   simp only[nm]
   refine tke 4 (.agg (ints .i64 bx).toArray) rfl (sld bf 0 (fun w h=>zax cd.o h) q103 c9.o) j ?_
   simp only[nm]
   refine Fl.go (f:=14) (d:=7) (zs:=(ints .i64 (List.replicate 16 0))) (T:=124) (B:=(U).heap.size) ?_ j
   clear j
   refine Fl.step 1 rfl rfl rfl rfl rfl q122 (fun _ _ h1 h2=>h1.trans h2) (fun _ h=>h.size) (fun z1 u K ai a7 i=>?_)
   have d3:Ext U z1:=W.trans ai
   clear a7
   go_simp
   refine(rone_f 1 _ (by omega) (by omega)).mono ?_
   rintro e m1 ⟨v1,rfl,D,b1⟩
   obtain⟨z1,ai,L⟩:=D.form
   subst ai
   have N1:Ext U m1:=d3.trans b1
   refine i.o (.agg (ints .i64 z1).toArray) _ b1 N1 ?_
   clear i K u
   try simp only[nm]
   refine Fl.step 2 rfl rfl rfl rfl rfl q122 (fun _ _ h1 h2=>h1.trans h2) (fun _ h=>h.size) (fun z2 u K al a7 i=>?_)
   have cy:Ext U z2:=N1.trans al
   clear a7
   go_simp
   refine(rsub_f _ cb.o D).mono ?_
   rintro e m2 ⟨v2,rfl,H,b2⟩
   obtain⟨z2,al,M⟩:=H.form
   subst al
   have R:Ext U m2:=cy.trans b2
   refine i.o (.agg (ints .i64 z2).toArray) _ b2 R ?_
   clear i K u
   try simp only[nm]
   refine Fl.step 5 rfl rfl rfl rfl rfl q122 (fun _ _ h1 h2=>h1.trans h2) (fun _ h=>h.size) (fun z3 u K bp a7 i=>?_)
   have d0:Ext U z3:=R.trans bp
   clear a7
   go_simp
   refine(zcu _ d_el.el cb.o).mono ?_
   rintro e m3 ⟨v3,rfl,e3,b3⟩
   obtain⟨z3,bp,l3⟩:=e3.form
   subst bp
   have N3:Ext U m3:=d0.trans b3
   refine i.o (.agg (ints .i64 z3).toArray) _ b3 N3 ?_
   clear i K u
   try simp only[nm]
   refine Fl.step 6 rfl rfl rfl rfl rfl q122 (fun _ _ h1 h2=>h1.trans h2) (fun _ h=>h.size) (fun z4 u K bu a7 i=>?_)
   have cx:Ext U z4:=N3.trans bu
   clear a7
   go_simp
   refine(rone_f 1 _ (by omega) (by omega)).mono ?_
   rintro e m4 ⟨v4,rfl,e4,b4⟩
   obtain⟨z4,bu,l4⟩:=e4.form
   subst bu
   have N4:Ext U m4:=cx.trans b4
   refine i.o (.agg (ints .i64 z4).toArray) _ b4 N4 ?_
   clear i K u
   try simp only[nm]
   refine Fl.step 7 rfl rfl rfl rfl rfl q122 (fun _ _ h1 h2=>h1.trans h2) (fun _ h=>h.size) (fun z5 u K bq a7 i=>?_)
   have cp:Ext U z5:=N4.trans bq
   clear a7
   go_simp
   refine(radd_f _ e3 e4).mono ?_
   rintro e m5 ⟨v5,rfl,e5,b5⟩
   obtain⟨z5,bq,l5⟩:=e5.form
   subst bq
   have N5:Ext U m5:=cp.trans b5
   refine i.o (.agg (ints .i64 z5).toArray) _ b5 N5 ?_
   clear i K u
   try simp only[nm]
   refine Fl.step 8 rfl rfl rfl rfl rfl q122 (fun _ _ h1 h2=>h1.trans h2) (fun _ h=>h.size) (fun z6 u K bo a7 i=>?_)
   have cm:Ext U z6:=N5.trans bo
   clear a7
   go_simp
   refine(rinv_f _ e5).mono ?_
   rintro e m6 ⟨v6,rfl,e6,b6⟩
   obtain⟨z6,bo,l6⟩:=e6.form
   subst bo
   have N6:Ext U m6:=cm.trans b6
   refine i.o (.agg (ints .i64 z6).toArray) _ b6 N6 ?_
   clear i K u
   try simp only[nm]
   refine Fl.step 9 rfl rfl rfl rfl rfl q122 (fun _ _ h1 h2=>h1.trans h2) (fun _ h=>h.size) (fun z7 u K bt a7 i=>?_)
   have d1:Ext U z7:=N6.trans bt
   clear a7
   go_simp
   refine(zcu _ H e6).mono ?_
   rintro e m7 ⟨v7,rfl,e7,b7⟩
   obtain⟨z7,bt,l7⟩:=e7.form
   subst bt
   have N7:Ext U m7:=d1.trans b7
   refine i.o (.agg (ints .i64 z7).toArray) _ b7 N7 ?_
   clear i K u
   try simp only[nm]
   refine Fl.step 10 rfl rfl rfl rfl rfl q122 (fun _ _ h1 h2=>h1.trans h2) (fun _ h=>h.size) (fun z8 u K bw a7 i=>?_)
   have c2:Ext U z8:=N7.trans bw
   clear a7
   go_simp
   refine(rroot_f _ e7 (cr.o.ext (q.o.trans c2))).mono ?_
   rintro e m8 ⟨v8,f8,rfl,e8,q8,b8⟩
   obtain⟨z8,bw,l8⟩:=e8.form
   subst bw
   have N8:Ext U m8:=c2.trans b8
   refine i.o (.tuple #[.agg (ints .i64 z8).toArray,.bool (rtB ((y*y - fp 1)*fi (dF*(y*y)+fp 1)))]) _ b8 N8 ?_
   clear i K u
   try simp only[nm]
   refine Fl.take 11 (.tuple #[.agg (ints .i64 z8).toArray,.bool (rtB ((y*y - fp 1)*fi (dF*(y*y)+fp 1)))]) rfl (fun u=>zbe _ (.tuple #[.agg (ints .i64 z8).toArray,.bool (rtB ((y*y - fp 1)*fi (dF*(y*y)+fp 1)))]) (by rfl) rfl rfl) ?_
   simp only[nm]
   refine Fl.take 12 (.agg (ints .i64 z8).toArray) rfl (fun u=>zaz (.agg (ints .i64 z8).toArray) (by rfl) (fun w _=>by go_simp)) ?_
   simp only[nm]
   refine Fl.take 13 (.bool (rtB ((y*y - fp 1)*fi (dF*(y*y)+fp 1)))) rfl (fun u=>zaz (.bool (rtB ((y*y - fp 1)*fi (dF*(y*y)+fp 1)))) (by rfl) (fun w _=>by go_simp)) ?_
   simp only[nm]
   refine Fl.last rfl rfl rfl rfl q122 (fun _ _ h1 h2=>h1.trans h2) (fun _ h=>h.size) (fun m9 g9 b9 j l9 z9=>?_)
   try simp only[nm]
   have N9:Ext U m9:=N8.trans b9
   refine rdy 15 rfl fun K i=>?_
   refine zan (by rfl) ?_
   refine zar _ _ _ rfl g9 (ints .i64 z8) rfl rfl _ _ z9 (by rw[zaa,l8];rfl) (zag l8) (zah _ _) ?_
   intro cf cl ce
   have bn:Ext U cf:=zab N9 ce l9
   refine i.o _ _ bn (fun j=>?_)
   clear i K
   try simp only[nm]
   refine rdy 16 rfl fun K i=>?_
   go_simp
   refine i.o _ _ bn (fun j=>?_)
   clear i K
   try simp only[nm]
   refine dne ?_
   go_wp2_with fail
   go_meet
   exact⟨_,f8,rfl,rfl,l9,⟨z8,l8,cl,e8⟩,q8,bn⟩
  case rest=>
   obtain⟨a4,f,rfl,rfl,cc,bz,bv,hX⟩:=hcut
   have cu:Hid (bf<a4):=jh (q116 a5.o.lt cc)
   obtain⟨V,a5⟩:=jq2 (V.o.ext hX) (a5.o.ext hX)
   obtain⟨J,C⟩:=xq2 J C hX
   have q:=xxt q hX
   obtain⟨a0,l⟩:=jq2 bz (And.intro l.o cu.o)
   clear bz hX cc
   generalize wc=cq at*
   rw[rad_eq]at bv⊢
   cases hrt:rtB (rad y)with
   |false=>
    have aq:=jh (may_no_root an.o (by rw[←a3.o];exact ao.o) (fun x hx=>by rw[←a3.o,←am.o]at hx;rw[rtB_true ⟨x,hx⟩]at hrt;cases hrt))
    go_wp2_with (refine ssb (A+1) (ints .i64 (List.replicate 64 0)) C.o rfl az.o (zah _ _) ?_;intro w9 b0 bc)
    refine bodyPost_ret (zau rfl _ (A+1) _ _ _ rfl b0 q137 rfl az.o) rfl ?_
    exact⟨_,by rw[mayB_false aq.o];rfl,by rw[zaa];rfl,zah _ _,fun P hP=>absurd ⟨P,hP⟩ aq.o,zab q.o bc (by have:=l.o;omega)⟩
   |true=>
    have ba:=jh (bv hrt)
    clear bv hrt
    obtain⟨k,E,Q,O⟩:=a0.o
    obtain⟨Y,t,F,a2⟩:=jq4 Q O E (zag E)
    clear Q O E
    go_wp2_with (refine slb a4 Y.o q103 a2.o ?_)
    refine(rout_f cq t.o).mono ?_
    rintro e bh ⟨rfl,G⟩
    obtain⟨V,a5,a0⟩:=jq3 (V.o.ext G) (a5.o.ext G) (a0.o.ext G)
    obtain⟨J,C⟩:=xq2 J C G
    have q:=xxt q G
    clear G
    obtain⟨HZ,ap⟩:=jq2 (Blk.made bh (ints .u8 (List.replicate 32 0)) 23) (Ext.alloc bh (.cells (ints .u8 (List.replicate 32 0)).toArray 23))
    have HL:Hid (((nbF f).map bval).length=(ints .u8 (List.replicate 32 0)).length):=jh (by rw[q100,zca,zaa];rfl)
    go_upto_region 11 with(refine ssb bh.heap.size ((nbF f).map bval) HZ.o HL.o (zaf (zca _)) (zac _) ?_;intro ah bj c7)
    have HX:=jh (zab ap.o c7 (q101 _))
    obtain⟨Wn,hT⟩:=nxq bh.heap.size
    have cn:Hid (a4<Wn):=jh (by rw[hT];exact a0.o.lt)
    rw[←hT]at bj⊢
    obtain⟨V,a5,a0⟩:=jq3 (V.o.ext HX.o) (a5.o.ext HX.o) (a0.o.ext HX.o)
    obtain⟨J,C⟩:=xq2 J C HX.o
    have q:=xxt q HX.o
    obtain⟨af,l⟩:=jq2 bj (And.intro l.o cn.o)
    clear bj c7 HZ ap HX hT HL
    have ar:=jh (zca f)
    have bi:=nbF_odd f
    by_cases f0:f=0
    ·have HQ:Hid (decide (nbF f=zer)=true):=jh (decide_eq_true (by rw[f0];exact nbF_nought))
     by_cases b1:b=1
     ·have c6:(b:Int)=1:=by omega
      have cw:=jh (may_no_f an.o (by rw[←a3.o];exact ao.o) (f:=f) (by rw[←a3.o,←am.o];exact ba.o) f0 (by rw[←ay.o];exact b1))
      clear b1 f0
      go_upto_region 12 with(first|(refine zdv (by rfl) _ _ _ _ _ _ 32 _ (nbF f) zer true rfl (Or.inl ⟨rfl,HQ.o⟩) q102 q113 zdq zcd zdn rfl rfl ar.o zer_length ?_)|(refine wpList_load_w (by rfl) _ _ rfl Wn rfl _ _ _ _ af.o q102 (zaf ar.o) ?_))
      have aq:=jh (cw.o)
      go_wp2_with (refine ssb (A+1) (ints .i64 (List.replicate 64 0)) C.o rfl az.o (zah _ _) ?_;intro w9 b0 bc)
      refine bodyPost_ret (zau rfl _ (A+1) _ _ _ rfl b0 q137 rfl az.o) rfl ?_
      exact⟨_,by rw[mayB_false aq.o];rfl,by rw[zaa];rfl,zah _ _,fun P hP=>absurd ⟨P,hP⟩ aq.o,zab q.o bc (by have:=l.o;omega)⟩
     have c6:decide ((b:Int)=1)=false:=decide_eq_false (by omega)
     have cv:=jh b1
     have cg:¬(b:Int)=1:=by omega
     have d2:decide (b=1)=false:=decide_eq_false b1
     clear f0
     go_upto_region 13 with(first|(refine zdv (by rfl) _ _ _ _ _ _ 32 _ (nbF f) zer true rfl (Or.inl ⟨rfl,HQ.o⟩) q102 q113 zdq zcd zdn rfl rfl ar.o zer_length ?_)|(refine wpList_load_w (by rfl) _ _ rfl Wn rfl _ _ _ _ af.o q102 (zaf ar.o) ?_))
     clear c6 cg d2 b1
     have bg:Hid (¬(f=0∧bitN n=1)):=jh (fun h=>cv.o (by rw[ay.o];exact h.2))
     have c0:=af.o.cell 0
     rw[zbg (by rw[ar.o];omega)]at c0
     have ak:=andU1 ((nbF f).getD 0 0).toNat
     rw[bi]at ak
     generalize (((nbF f).getD 0 0).toNat:Int)=q0 at*
     clear bi
     by_cases aj:f.val%2=b
     ·have hq:bits .and .u8 q0 1=(b:Int):=by rw[ak,aj]
      have ax:Hid (f=pickX f (bitN n)):=jh (by unfold pickX;rw[←ay.o,if_pos aj])
      clear ak aj
      go_upto_region 15 with(fail)
      clear hq c0
      obtain⟨k,E,Q,O⟩:=a0.o
      obtain⟨Y,t,F,a2⟩:=jq4 Q O E (zag E)
      clear Q O E
      obtain⟨m,a1,aa,a9⟩:=V.o
      obtain⟨ad,I,N,ac⟩:=jq4 aa a9 a1 (zag a1)
      clear aa a9 a1
      have W:Ext ah ah.drew:=Ext.drew _
      refine wp_region_held_drew (S:=fun w'=>Far (A+1) ah w') (by kernel_rfl) (zap W) (fun j=>?_)
      refine tke 0 (.agg (ints .i64 k).toArray) rfl (sld a4 0 (fun w h=>zat Y.o (by have:=l.o;omega) h) q103 a2.o) j ?_
      simp only[nm]
      refine tke 1 (.agg (ints .i64 m).toArray) rfl (sld ag 0 (fun w h=>zat ad.o (by have:=l.o;omega) h) q103 ac.o) j ?_
      simp only[nm]
      refine tke 3 (.agg (ints .i64 k).toArray) rfl (sld a4 0 (fun w h=>zat Y.o (by have:=l.o;omega) h) q103 a2.o) j ?_
      simp only[nm]
      refine tke 4 (.agg (ints .i64 m).toArray) rfl (sld ag 0 (fun w h=>zat ad.o (by have:=l.o;omega) h) q103 ac.o) j ?_
      simp only[nm]
      refine rdy 2 rfl fun K i=>?_
      go_simp
      refine(rone_f 1 _ (by omega) (by omega)).mono ?_
      rintro e m1 ⟨v1,rfl,D,b1⟩
      obtain⟨z1,ai,L⟩:=D.form
      subst ai
      have N1:Ext ah m1:=W.trans b1
      refine i.o _ _ (zap N1) (fun j=>?_)
      clear i K
      try simp only[nm]
      refine rdy 5 rfl fun K i=>?_
      go_simp
      refine(zcu _ t.o I.o).mono ?_
      rintro e m2 ⟨v2,rfl,H,b2⟩
      obtain⟨z2,al,M⟩:=H.form
      subst al
      have R:Ext ah m2:=N1.trans b2
      refine i.o _ _ (zap R) (fun j=>?_)
      clear i K
      try simp only[nm]
      refine tke 6 (.agg (ptC k m z1 z2).toArray) rfl (yi_build _ _ _ _ (build_pt (⟨⟨F.o,t.o⟩,⟨N.o,I.o⟩,⟨L,D⟩,⟨M,H⟩⟩:PtZ k m z1 z2 (⟨f,y,fp 1,f*y⟩:ES))) (by rfl) rfl (by simp[Act.eval])) j ?_
      simp only[nm]
      refine rdy 7 rfl fun K i=>?_
      refine zan (by rfl) ?_
      refine zar _ _ _ rfl (A+1) (ptC k m z1 z2) rfl rfl _ _ (zak C.o R) (by rw[zbq ((⟨⟨F.o,t.o⟩,⟨N.o,I.o⟩,⟨L,D⟩,⟨M,H⟩⟩:PtZ k m z1 z2 (⟨f,y,fp 1,f*y⟩:ES))),zaa];rfl) (zcm ((⟨⟨F.o,t.o⟩,⟨N.o,I.o⟩,⟨L,D⟩,⟨M,H⟩⟩:PtZ k m z1 z2 (⟨f,y,fp 1,f*y⟩:ES)))) (zef _ _ _ _) ?_
      intro m3 aw a8
      refine i.o _ _ (zby R a8) (fun j=>?_)
      clear i K
      try simp only[nm]
      refine rdy 8 rfl fun K i=>?_
      go_simp
      refine i.o _ _ (zby R a8) (fun j=>?_)
      clear i K
      try simp only[nm]
      refine dne ?_
      go_wp2_with fail
      refine bodyPost_ret (zau rfl _ (A+1) _ _ _ rfl aw q137 rfl (zcm (⟨⟨F.o,t.o⟩,⟨N.o,I.o⟩,⟨L,D⟩,⟨M,H⟩⟩:PtZ k m z1 z2 (⟨f,y,fp 1,f*y⟩:ES)))) rfl ?_
      have a6:=read_is an.o (by rw[←a3.o];exact ao.o) (f:=f) (by rw[←a3.o,←am.o];exact ba.o) bg.o ax.o
      rw[←a3.o,←am.o]at a6
      exact⟨_,by rw[mayB_true a6.1];rfl,zbq (⟨⟨F.o,t.o⟩,⟨N.o,I.o⟩,⟨L,D⟩,⟨M,H⟩⟩:PtZ k m z1 z2 (⟨f,y,fp 1,f*y⟩:ES)),zef _ _ _ _,fun P hP=>⟨(⟨f,y,fp 1,f*y⟩:ES),⟨_,_,_,_,rfl,(⟨⟨F.o,t.o⟩,⟨N.o,I.o⟩,⟨L,D⟩,⟨M,H⟩⟩:PtZ k m z1 z2 (⟨f,y,fp 1,f*y⟩:ES))⟩,a6.2 P hP⟩,zab (q.o.trans R) a8 (by have:=l.o;omega)⟩
     obtain⟨c,hc⟩:=nxq (f.val%2)
     have hq:bits .and .u8 q0 1=(c:Int):=by rw[ak,hc]
     have bd:¬(c:Int)=(b:Int):=by rw[hc];omega
     have br:decide ((c:Int)=(b:Int))=false:=decide_eq_false bd
     have ax:Hid (0 - f=pickX f (bitN n)):=jh (by unfold pickX;rw[←ay.o,if_neg aj,f_neg])
     clear ak aj hc
     go_upto_region 14 with(fail)
     clear hq c0 bd br
     obtain⟨k,E,Q,O⟩:=a0.o
     obtain⟨Y,t,F,a2⟩:=jq4 Q O E (zag E)
     clear Q O E
     go_wp2_with (refine slb a4 Y.o q103 a2.o ?_)
     refine(rsub_f ah el_zero t.o).mono ?_
     rintro e ck ⟨r,rfl,hr,G⟩
     obtain⟨z,hz,lz⟩:=hr.form
     subst hz
     obtain⟨V,a5,a0⟩:=jq3 (V.o.ext G) (a5.o.ext G) (a0.o.ext G)
     obtain⟨J,C,af⟩:=xq3 J C af G
     have q:=xxt q G
     clear G
     obtain⟨k,E,Q,O⟩:=a0.o
     obtain⟨Y,t,F,a2⟩:=jq4 Q O E (zag E)
     clear Q O E
     have HI:=jh (zag lz)
     have HL:Hid ((ints .i64 z).length=(ints .i64 k).length):=jh (by rw[zaa,zaa,lz,F.o])
     go_upto_region 15 with(refine ssb a4 (ints .i64 z) Y.o HL.o HI.o (zah _ _) ?_;intro ae ab X)
     have V:=jh (V.o.grown X (by have:=l.o;simp;omega))
     have a5:=jh (a5.o.grown X (by have:=l.o;simp;omega))
     have J:=jh (J.o.grown X (by have:=l.o;simp;omega))
     have C:=jh (C.o.grown X (by have:=l.o;simp;omega))
     have af:=jh (af.o.grown X (by have:=l.o;simp;omega))
     have q:=jh (zab q.o X (by have:=l.o;omega))
     have a0:Hid (ElB ae a4 (0 - f)):=jh ⟨z,lz,ab,hr⟩
     clear ab X hr HI HL lz
     obtain⟨k,E,Q,O⟩:=a0.o
     obtain⟨Y,t,F,a2⟩:=jq4 Q O E (zag E)
     clear Q O E
     obtain⟨m,a1,aa,a9⟩:=V.o
     obtain⟨ad,I,N,ac⟩:=jq4 aa a9 a1 (zag a1)
     clear aa a9 a1
     have W:Ext ae ae.drew:=Ext.drew _
     refine wp_region_held_drew (S:=fun w'=>Far (A+1) ae w') (by kernel_rfl) (zap W) (fun j=>?_)
     refine tke 0 (.agg (ints .i64 k).toArray) rfl (sld a4 0 (fun w h=>zat Y.o (by have:=l.o;omega) h) q103 a2.o) j ?_
     simp only[nm]
     refine tke 1 (.agg (ints .i64 m).toArray) rfl (sld ag 0 (fun w h=>zat ad.o (by have:=l.o;omega) h) q103 ac.o) j ?_
     simp only[nm]
     refine tke 3 (.agg (ints .i64 k).toArray) rfl (sld a4 0 (fun w h=>zat Y.o (by have:=l.o;omega) h) q103 a2.o) j ?_
     simp only[nm]
     refine tke 4 (.agg (ints .i64 m).toArray) rfl (sld ag 0 (fun w h=>zat ad.o (by have:=l.o;omega) h) q103 ac.o) j ?_
     simp only[nm]
     refine rdy 2 rfl fun K i=>?_
     go_simp
     refine(rone_f 1 _ (by omega) (by omega)).mono ?_
     rintro e m1 ⟨v1,rfl,D,b1⟩
     obtain⟨z1,ai,L⟩:=D.form
     subst ai
     have N1:Ext ae m1:=W.trans b1
     refine i.o _ _ (zap N1) (fun j=>?_)
     clear i K
     try simp only[nm]
     refine rdy 5 rfl fun K i=>?_
     go_simp
     refine(zcu _ t.o I.o).mono ?_
     rintro e m2 ⟨v2,rfl,H,b2⟩
     obtain⟨z2,al,M⟩:=H.form
     subst al
     have R:Ext ae m2:=N1.trans b2
     refine i.o _ _ (zap R) (fun j=>?_)
     clear i K
     try simp only[nm]
     refine tke 6 (.agg (ptC k m z1 z2).toArray) rfl (yi_build _ _ _ _ (build_pt (⟨⟨F.o,t.o⟩,⟨N.o,I.o⟩,⟨L,D⟩,⟨M,H⟩⟩:PtZ k m z1 z2 (⟨(0 - f),y,fp 1,(0 - f)*y⟩:ES))) (by rfl) rfl (by simp[Act.eval])) j ?_
     simp only[nm]
     refine rdy 7 rfl fun K i=>?_
     refine zan (by rfl) ?_
     refine zar _ _ _ rfl (A+1) (ptC k m z1 z2) rfl rfl _ _ (zak C.o R) (by rw[zbq ((⟨⟨F.o,t.o⟩,⟨N.o,I.o⟩,⟨L,D⟩,⟨M,H⟩⟩:PtZ k m z1 z2 (⟨(0 - f),y,fp 1,(0 - f)*y⟩:ES))),zaa];rfl) (zcm ((⟨⟨F.o,t.o⟩,⟨N.o,I.o⟩,⟨L,D⟩,⟨M,H⟩⟩:PtZ k m z1 z2 (⟨(0 - f),y,fp 1,(0 - f)*y⟩:ES)))) (zef _ _ _ _) ?_
     intro m3 aw a8
     refine i.o _ _ (zby R a8) (fun j=>?_)
     clear i K
     try simp only[nm]
     refine rdy 8 rfl fun K i=>?_
     go_simp
     refine i.o _ _ (zby R a8) (fun j=>?_)
     clear i K
     try simp only[nm]
     refine dne ?_
     go_wp2_with fail
     refine bodyPost_ret (zau rfl _ (A+1) _ _ _ rfl aw q137 rfl (zcm (⟨⟨F.o,t.o⟩,⟨N.o,I.o⟩,⟨L,D⟩,⟨M,H⟩⟩:PtZ k m z1 z2 (⟨(0 - f),y,fp 1,(0 - f)*y⟩:ES)))) rfl ?_
     have a6:=read_is an.o (by rw[←a3.o];exact ao.o) (f:=f) (by rw[←a3.o,←am.o];exact ba.o) bg.o ax.o
     rw[←a3.o,←am.o]at a6
     exact⟨_,by rw[mayB_true a6.1];rfl,zbq (⟨⟨F.o,t.o⟩,⟨N.o,I.o⟩,⟨L,D⟩,⟨M,H⟩⟩:PtZ k m z1 z2 (⟨(0 - f),y,fp 1,(0 - f)*y⟩:ES)),zef _ _ _ _,fun P hP=>⟨(⟨(0 - f),y,fp 1,(0 - f)*y⟩:ES),⟨_,_,_,_,rfl,(⟨⟨F.o,t.o⟩,⟨N.o,I.o⟩,⟨L,D⟩,⟨M,H⟩⟩:PtZ k m z1 z2 (⟨(0 - f),y,fp 1,(0 - f)*y⟩:ES))⟩,a6.2 P hP⟩,zab (q.o.trans R) a8 (by have:=l.o;omega)⟩
    have HQ:Hid (decide (nbF f=zer)=false):=jh (decide_eq_false (fun h=>f0 (nbF_zer h)))
    have cz:=jh f0
    clear f0
    go_upto_region 13 with(first|(refine zdv (by rfl) _ _ _ _ _ _ 32 _ (nbF f) zer false rfl (Or.inl ⟨rfl,HQ.o⟩) q102 q113 zdq zcd zdn rfl rfl ar.o zer_length ?_)|(refine wpList_load_w (by rfl) _ _ rfl Wn rfl _ _ _ _ af.o q102 (zaf ar.o) ?_))
    have bg:Hid (¬(f=0∧bitN n=1)):=jh (fun h=>cz.o h.1)
    have c0:=af.o.cell 0
    rw[zbg (by rw[ar.o];omega)]at c0
    have ak:=andU1 ((nbF f).getD 0 0).toNat
    rw[bi]at ak
    generalize (((nbF f).getD 0 0).toNat:Int)=q0 at*
    clear bi
    by_cases aj:f.val%2=b
    ·have hq:bits .and .u8 q0 1=(b:Int):=by rw[ak,aj]
     have ax:Hid (f=pickX f (bitN n)):=jh (by unfold pickX;rw[←ay.o,if_pos aj])
     clear ak aj
     go_upto_region 15 with(fail)
     clear hq c0
     obtain⟨k,E,Q,O⟩:=a0.o
     obtain⟨Y,t,F,a2⟩:=jq4 Q O E (zag E)
     clear Q O E
     obtain⟨m,a1,aa,a9⟩:=V.o
     obtain⟨ad,I,N,ac⟩:=jq4 aa a9 a1 (zag a1)
     clear aa a9 a1
     have W:Ext ah ah.drew:=Ext.drew _
     refine wp_region_held_drew (S:=fun w'=>Far (A+1) ah w') (by kernel_rfl) (zap W) (fun j=>?_)
     refine tke 0 (.agg (ints .i64 k).toArray) rfl (sld a4 0 (fun w h=>zat Y.o (by have:=l.o;omega) h) q103 a2.o) j ?_
     simp only[nm]
     refine tke 1 (.agg (ints .i64 m).toArray) rfl (sld ag 0 (fun w h=>zat ad.o (by have:=l.o;omega) h) q103 ac.o) j ?_
     simp only[nm]
     refine tke 3 (.agg (ints .i64 k).toArray) rfl (sld a4 0 (fun w h=>zat Y.o (by have:=l.o;omega) h) q103 a2.o) j ?_
     simp only[nm]
     refine tke 4 (.agg (ints .i64 m).toArray) rfl (sld ag 0 (fun w h=>zat ad.o (by have:=l.o;omega) h) q103 ac.o) j ?_
     simp only[nm]
     refine rdy 2 rfl fun K i=>?_
     go_simp
     refine(rone_f 1 _ (by omega) (by omega)).mono ?_
     rintro e m1 ⟨v1,rfl,D,b1⟩
     obtain⟨z1,ai,L⟩:=D.form
     subst ai
     have N1:Ext ah m1:=W.trans b1
     refine i.o _ _ (zap N1) (fun j=>?_)
     clear i K
     try simp only[nm]
     refine rdy 5 rfl fun K i=>?_
     go_simp
     refine(zcu _ t.o I.o).mono ?_
     rintro e m2 ⟨v2,rfl,H,b2⟩
     obtain⟨z2,al,M⟩:=H.form
     subst al
     have R:Ext ah m2:=N1.trans b2
     refine i.o _ _ (zap R) (fun j=>?_)
     clear i K
     try simp only[nm]
     refine tke 6 (.agg (ptC k m z1 z2).toArray) rfl (yi_build _ _ _ _ (build_pt (⟨⟨F.o,t.o⟩,⟨N.o,I.o⟩,⟨L,D⟩,⟨M,H⟩⟩:PtZ k m z1 z2 (⟨f,y,fp 1,f*y⟩:ES))) (by rfl) rfl (by simp[Act.eval])) j ?_
     simp only[nm]
     refine rdy 7 rfl fun K i=>?_
     refine zan (by rfl) ?_
     refine zar _ _ _ rfl (A+1) (ptC k m z1 z2) rfl rfl _ _ (zak C.o R) (by rw[zbq ((⟨⟨F.o,t.o⟩,⟨N.o,I.o⟩,⟨L,D⟩,⟨M,H⟩⟩:PtZ k m z1 z2 (⟨f,y,fp 1,f*y⟩:ES))),zaa];rfl) (zcm ((⟨⟨F.o,t.o⟩,⟨N.o,I.o⟩,⟨L,D⟩,⟨M,H⟩⟩:PtZ k m z1 z2 (⟨f,y,fp 1,f*y⟩:ES)))) (zef _ _ _ _) ?_
     intro m3 aw a8
     refine i.o _ _ (zby R a8) (fun j=>?_)
     clear i K
     try simp only[nm]
     refine rdy 8 rfl fun K i=>?_
     go_simp
     refine i.o _ _ (zby R a8) (fun j=>?_)
     clear i K
     try simp only[nm]
     refine dne ?_
     go_wp2_with fail
     refine bodyPost_ret (zau rfl _ (A+1) _ _ _ rfl aw q137 rfl (zcm (⟨⟨F.o,t.o⟩,⟨N.o,I.o⟩,⟨L,D⟩,⟨M,H⟩⟩:PtZ k m z1 z2 (⟨f,y,fp 1,f*y⟩:ES)))) rfl ?_
     have a6:=read_is an.o (by rw[←a3.o];exact ao.o) (f:=f) (by rw[←a3.o,←am.o];exact ba.o) bg.o ax.o
     rw[←a3.o,←am.o]at a6
     exact⟨_,by rw[mayB_true a6.1];rfl,zbq (⟨⟨F.o,t.o⟩,⟨N.o,I.o⟩,⟨L,D⟩,⟨M,H⟩⟩:PtZ k m z1 z2 (⟨f,y,fp 1,f*y⟩:ES)),zef _ _ _ _,fun P hP=>⟨(⟨f,y,fp 1,f*y⟩:ES),⟨_,_,_,_,rfl,(⟨⟨F.o,t.o⟩,⟨N.o,I.o⟩,⟨L,D⟩,⟨M,H⟩⟩:PtZ k m z1 z2 (⟨f,y,fp 1,f*y⟩:ES))⟩,a6.2 P hP⟩,zab (q.o.trans R) a8 (by have:=l.o;omega)⟩
    obtain⟨c,hc⟩:=nxq (f.val%2)
    have hq:bits .and .u8 q0 1=(c:Int):=by rw[ak,hc]
    have bd:¬(c:Int)=(b:Int):=by rw[hc];omega
    have br:decide ((c:Int)=(b:Int))=false:=decide_eq_false bd
    have ax:Hid (0 - f=pickX f (bitN n)):=jh (by unfold pickX;rw[←ay.o,if_neg aj,f_neg])
    clear ak aj hc
    go_upto_region 14 with(fail)
    clear hq c0 bd br
    obtain⟨k,E,Q,O⟩:=a0.o
    obtain⟨Y,t,F,a2⟩:=jq4 Q O E (zag E)
    clear Q O E
    go_wp2_with (refine slb a4 Y.o q103 a2.o ?_)
    refine(rsub_f ah el_zero t.o).mono ?_
    rintro e ck ⟨r,rfl,hr,G⟩
    obtain⟨z,hz,lz⟩:=hr.form
    subst hz
    obtain⟨V,a5,a0⟩:=jq3 (V.o.ext G) (a5.o.ext G) (a0.o.ext G)
    obtain⟨J,C,af⟩:=xq3 J C af G
    have q:=xxt q G
    clear G
    obtain⟨k,E,Q,O⟩:=a0.o
    obtain⟨Y,t,F,a2⟩:=jq4 Q O E (zag E)
    clear Q O E
    have HI:=jh (zag lz)
    have HL:Hid ((ints .i64 z).length=(ints .i64 k).length):=jh (by rw[zaa,zaa,lz,F.o])
    go_upto_region 15 with(refine ssb a4 (ints .i64 z) Y.o HL.o HI.o (zah _ _) ?_;intro ae ab X)
    have V:=jh (V.o.grown X (by have:=l.o;simp;omega))
    have a5:=jh (a5.o.grown X (by have:=l.o;simp;omega))
    have J:=jh (J.o.grown X (by have:=l.o;simp;omega))
    have C:=jh (C.o.grown X (by have:=l.o;simp;omega))
    have af:=jh (af.o.grown X (by have:=l.o;simp;omega))
    have q:=jh (zab q.o X (by have:=l.o;omega))
    have a0:Hid (ElB ae a4 (0 - f)):=jh ⟨z,lz,ab,hr⟩
    clear ab X hr HI HL lz
    obtain⟨k,E,Q,O⟩:=a0.o
    obtain⟨Y,t,F,a2⟩:=jq4 Q O E (zag E)
    clear Q O E
    obtain⟨m,a1,aa,a9⟩:=V.o
    obtain⟨ad,I,N,ac⟩:=jq4 aa a9 a1 (zag a1)
    clear aa a9 a1
    have W:Ext ae ae.drew:=Ext.drew _
    refine wp_region_held_drew (S:=fun w'=>Far (A+1) ae w') (by kernel_rfl) (zap W) (fun j=>?_)
    refine tke 0 (.agg (ints .i64 k).toArray) rfl (sld a4 0 (fun w h=>zat Y.o (by have:=l.o;omega) h) q103 a2.o) j ?_
    simp only[nm]
    refine tke 1 (.agg (ints .i64 m).toArray) rfl (sld ag 0 (fun w h=>zat ad.o (by have:=l.o;omega) h) q103 ac.o) j ?_
    simp only[nm]
    refine tke 3 (.agg (ints .i64 k).toArray) rfl (sld a4 0 (fun w h=>zat Y.o (by have:=l.o;omega) h) q103 a2.o) j ?_
    simp only[nm]
    refine tke 4 (.agg (ints .i64 m).toArray) rfl (sld ag 0 (fun w h=>zat ad.o (by have:=l.o;omega) h) q103 ac.o) j ?_
    simp only[nm]
    refine rdy 2 rfl fun K i=>?_
    go_simp
    refine(rone_f 1 _ (by omega) (by omega)).mono ?_
    rintro e m1 ⟨v1,rfl,D,b1⟩
    obtain⟨z1,ai,L⟩:=D.form
    subst ai
    have N1:Ext ae m1:=W.trans b1
    refine i.o _ _ (zap N1) (fun j=>?_)
    clear i K
    try simp only[nm]
    refine rdy 5 rfl fun K i=>?_
    go_simp
    refine(zcu _ t.o I.o).mono ?_
    rintro e m2 ⟨v2,rfl,H,b2⟩
    obtain⟨z2,al,M⟩:=H.form
    subst al
    have R:Ext ae m2:=N1.trans b2
    refine i.o _ _ (zap R) (fun j=>?_)
    clear i K
    try simp only[nm]
    refine tke 6 (.agg (ptC k m z1 z2).toArray) rfl (yi_build _ _ _ _ (build_pt (⟨⟨F.o,t.o⟩,⟨N.o,I.o⟩,⟨L,D⟩,⟨M,H⟩⟩:PtZ k m z1 z2 (⟨(0 - f),y,fp 1,(0 - f)*y⟩:ES))) (by rfl) rfl (by simp[Act.eval])) j ?_
    simp only[nm]
    refine rdy 7 rfl fun K i=>?_
    refine zan (by rfl) ?_
    refine zar _ _ _ rfl (A+1) (ptC k m z1 z2) rfl rfl _ _ (zak C.o R) (by rw[zbq ((⟨⟨F.o,t.o⟩,⟨N.o,I.o⟩,⟨L,D⟩,⟨M,H⟩⟩:PtZ k m z1 z2 (⟨(0 - f),y,fp 1,(0 - f)*y⟩:ES))),zaa];rfl) (zcm ((⟨⟨F.o,t.o⟩,⟨N.o,I.o⟩,⟨L,D⟩,⟨M,H⟩⟩:PtZ k m z1 z2 (⟨(0 - f),y,fp 1,(0 - f)*y⟩:ES)))) (zef _ _ _ _) ?_
    intro m3 aw a8
    refine i.o _ _ (zby R a8) (fun j=>?_)
    clear i K
    try simp only[nm]
    refine rdy 8 rfl fun K i=>?_
    go_simp
    refine i.o _ _ (zby R a8) (fun j=>?_)
    clear i K
    try simp only[nm]
    refine dne ?_
    go_wp2_with fail
    refine bodyPost_ret (zau rfl _ (A+1) _ _ _ rfl aw q137 rfl (zcm (⟨⟨F.o,t.o⟩,⟨N.o,I.o⟩,⟨L,D⟩,⟨M,H⟩⟩:PtZ k m z1 z2 (⟨(0 - f),y,fp 1,(0 - f)*y⟩:ES)))) rfl ?_
    have a6:=read_is an.o (by rw[←a3.o];exact ao.o) (f:=f) (by rw[←a3.o,←am.o];exact ba.o) bg.o ax.o
    rw[←a3.o,←am.o]at a6
    exact⟨_,by rw[mayB_true a6.1];rfl,zbq (⟨⟨F.o,t.o⟩,⟨N.o,I.o⟩,⟨L,D⟩,⟨M,H⟩⟩:PtZ k m z1 z2 (⟨(0 - f),y,fp 1,(0 - f)*y⟩:ES)),zef _ _ _ _,fun P hP=>⟨(⟨(0 - f),y,fp 1,(0 - f)*y⟩:ES),⟨_,_,_,_,rfl,(⟨⟨F.o,t.o⟩,⟨N.o,I.o⟩,⟨L,D⟩,⟨M,H⟩⟩:PtZ k m z1 z2 (⟨(0 - f),y,fp 1,(0 - f)*y⟩:ES))⟩,a6.2 P hP⟩,zab (q.o.trans R) a8 (by have:=l.o;omega)⟩
 have be:¬nb ((leN Z:Nat):Int)=Z:=nbc_not (by omega)
 have W:Ext wb wb.drew:=Ext.drew _
 refine wp_region_held_drew (S:=fun w'=>Ext wb w') (by kernel_rfl) W (fun j=>?_)
 refine tke 0 (.agg ((Z).map bval).toArray) rfl (sld A 0 (fun w h=>zax J.o h) q102 bb.o) j ?_
 simp only[nm]
 refine tke 2 (.agg ((Z).map bval).toArray) rfl (sld A 0 (fun w h=>zax J.o h) q102 bb.o) j ?_
 simp only[nm]
 refine rdy 1 rfl fun K i=>?_
 go_simp
 refine(rCanon_num Z _ au.o).mono ?_
 rintro e m1 ⟨rfl,b1⟩
 have N1:Ext wb m1:=W.trans b1
 refine i.o _ _ N1 (fun j=>?_)
 clear i K
 try simp only[nm]
 refine tke 3 (.bool true) rfl (yi_neqB _ _ _ _ _ 32 _ (nb ((leN Z:Nat):Int)) (Z) true (by rfl) rfl (decide_eq_false be) q102 q113 zdq zcd zdn rfl rfl (nbc_length _) (au.o)) j ?_
 simp only[nm]
 refine dne ?_
 have av:=jh (N1:Ext wb m1)
 obtain⟨J,C⟩:=xq2 J C av.o
 have q:=xxt q av.o
 clear av
 generalize m1=wc at*
 have ao:Hid (pN≤leN Z):=jh (by omega)
 clear be hp
 have aq:=jh (may_no_y an.o (by rw[←a3.o];exact ao.o))
 go_wp2_with (refine ssb (A+1) (ints .i64 (List.replicate 64 0)) C.o rfl az.o (zah _ _) ?_;intro w9 b0 bc)
 refine bodyPost_ret (zau rfl _ (A+1) _ _ _ rfl b0 q137 rfl az.o) rfl ?_
 exact⟨_,by rw[mayB_false aq.o];rfl,by rw[zaa];rfl,zah _ _,fun P hP=>absurd ⟨P,hP⟩ aq.o,zab q.o bc (by have:=l.o;omega)⟩
end Go.Proofs.YtgnfdonbholcdaaGreatDoor


