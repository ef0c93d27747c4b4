/- Lemmas. -/
import Derived.Test.YtgnfdonbholcdaaGreatDoorQz06
namespace Go.Proofs.YtgnfdonbholcdaaGreatDoor
set_option linter.unusedVariables false
set_option maxRecDepth 100000
set_option maxHeartbeats 32000000
set_option linter.unusedSimpArgs false
open Go.RowKit
theorem result_pt {P:Program} {w:World} {b:Func} {p:Tmp} {ty:TypeId} {e:Array Field}(h:b.results=#[.cell p ty])(tmps:Array Value)(c:Nat)(t:TypeId)(a:List Value)
  (f:tmps.getD p undef=.pointer (some ⟨c,0,none⟩)) (d:Blk w c a t) (i:P.underlying ty=some (.struct e)) (g:(P.info? ty).map (·.size)=some a.length):
  (results b tmps).run P w=.ok (.agg a.toArray) w:=
 results_cell_row h tmps w c t a.toArray (0,0) _ f d i rfl (by simpa using g)
theorem rsum_f(u v:Value)(p q:ES)(w:World)(hu:PtV u p)(hv:PtV v q)(hG:GlobD w):Calls Tryz.prog 92 #[u,v] w fun e w'=>∃r,e=.returned r∧PtV r (p.sum q)∧Below w.heap.size w w':=by
 obtain⟨pa,pb,pc,pd,rfl,hp⟩:=hu
 obtain⟨qa,qb,qc,qd,rfl,hq⟩:=hv
 obtain⟨z1,z2,C,L⟩:=id hp
 obtain⟨af,am,br,ce,dh⟩:=jq5 z1 z2 C L (zcm hp)
 clear z1 z2 C L hp
 obtain⟨z1,z2,C,L⟩:=id hq
 obtain⟨ab,ao,bp,cn,dd⟩:=jq5 z1 z2 C L (zcm hq)
 clear z1 z2 C L hq
 have c2:=jh hG
 clear hG
 have HB:=jh (boxes3 w (ptC pa pb pc pd) (ptC qa qb qc qd) (ints .i64 (List.replicate 64 0)) 126 126 126)
 go_enter Tryz.func92,Tryz.ntmps92
 go_upto_region 1 with(fail)
 obtain⟨H1,H2,H3,l⟩:=HB.o
 change Code.wp _ _ _ _ (((w.alloc (.cells (ptC pa pb pc pd).toArray 126)).alloc (.cells (ptC qa qb qc qd).toArray 126)).alloc (.cells (ints .i64 (List.replicate 64 0)).toArray 126))
 generalize ((w.alloc (.cells (ptC pa pb pc pd).toArray 126)).alloc (.cells (ptC qa qb qc qd).toArray 126)).alloc (.cells (ints .i64 (List.replicate 64 0)).toArray 126)=Q at*
 obtain⟨A,hA⟩:=nxq w.heap.size
 have m:Hid (w.heap.size≤A):=jh (by omega)
 rw[←hA]at H1 H2 H3⊢
 obtain⟨j,k,n⟩:=jq3 H1 H2 H3
 have l:Hid (Ext w Q):=jh l
 clear hA HB H1 H2 H3
 try go_wp2_with fail
 try simp only[nm]
 go_cut [5]from 13 to 23 (fun vq wq=>∃g,vq=.pointer (some ⟨g,0,none⟩)∧Q.heap.size≤g∧ElB wq g ((p.y - p.x)*(q.y - q.x))∧Ext Q wq)
 case first=>
  have B0:Ext Q Q.drew:=Ext.drew _
  refine wp_region_held_drew (S:=fun w'=>Ext Q w') (by kernel_rfl) B0 (fun b=>?_)
  refine tke 0 (.pointer (some ⟨A,16,none⟩)) rfl (zaz (.pointer (some ⟨A,16,none⟩)) (by rfl) (fun w _=>by go_simp)) b ?_
  simp only[nm]
  refine tke 1 (.agg (ints .i64 pb).toArray) rfl (sld A 16 (fun w h=>rng_y (zak j.o h) af.o.len) q103 (zag am.o.len)) b ?_
  simp only[nm]
  refine tke 2 (.pointer (some ⟨A,0,none⟩)) rfl (zaz (.pointer (some ⟨A,0,none⟩)) (by rfl) (fun w _=>by go_simp)) b ?_
  simp only[nm]
  refine tke 3 (.agg (ints .i64 pa).toArray) rfl (sld A 0 (fun w h=>rng_x (zak j.o h)) q103 (zag af.o.len)) b ?_
  simp only[nm]
  refine tke 5 (.pointer (some ⟨(A+1),16,none⟩)) rfl (zaz (.pointer (some ⟨(A+1),16,none⟩)) (by rfl) (fun w _=>by go_simp)) b ?_
  simp only[nm]
  refine tke 6 (.agg (ints .i64 qb).toArray) rfl (sld (A+1) 16 (fun w h=>rng_y (zak k.o h) ab.o.len) q103 (zag ao.o.len)) b ?_
  simp only[nm]
  refine tke 7 (.pointer (some ⟨(A+1),0,none⟩)) rfl (zaz (.pointer (some ⟨(A+1),0,none⟩)) (by rfl) (fun w _=>by go_simp)) b ?_
  simp only[nm]
  refine tke 8 (.agg (ints .i64 qa).toArray) rfl (sld (A+1) 0 (fun w h=>rng_x (zak k.o h)) q103 (zag ab.o.len)) b ?_
  simp only[nm]
  refine Fl.go (f:=11) (d:=5) (zs:=(ints .i64 (List.replicate 16 0))) (T:=124) (B:=(Q).heap.size) ?_ b
  clear b
  refine Fl.step 4 rfl rfl rfl rfl rfl q122 (fun _ _ h1 h2=>h1.trans h2) (fun _ h=>h.size) (fun z1 u K a3 M c=>?_)
  have b7:Ext Q z1:=B0.trans a3
  clear M
  go_simp
  refine(rsub_f _ am.o.el af.o.el).mono ?_
  rintro e m1 ⟨v1,rfl,X,b1⟩
  obtain⟨z1,a3,l1⟩:=X.form
  subst a3
  have N1:Ext Q m1:=b7.trans b1
  refine c.o (.agg (ints .i64 z1).toArray) _ b1 N1 ?_
  clear c K u
  try simp only[nm]
  refine Fl.step 9 rfl rfl rfl rfl rfl q122 (fun _ _ h1 h2=>h1.trans h2) (fun _ h=>h.size) (fun z2 u K a4 M c=>?_)
  have b5:Ext Q z2:=N1.trans a4
  clear M
  go_simp
  refine(rsub_f _ ao.o.el ab.o.el).mono ?_
  rintro e m2 ⟨v2,rfl,U,b2⟩
  obtain⟨z2,a4,l2⟩:=U.form
  subst a4
  have N2:Ext Q m2:=b5.trans b2
  refine c.o (.agg (ints .i64 z2).toArray) _ b2 N2 ?_
  clear c K u
  try simp only[nm]
  refine Fl.step 10 rfl rfl rfl rfl rfl q122 (fun _ _ h1 h2=>h1.trans h2) (fun _ h=>h.size) (fun C u K a5 M c=>?_)
  have b6:Ext Q C:=N2.trans a5
  clear M
  go_simp
  refine(zcu _ X U).mono ?_
  rintro e m3 ⟨v3,rfl,R,b3⟩
  obtain⟨C,a5,P⟩:=R.form
  subst a5
  have N3:Ext Q m3:=b6.trans b3
  refine c.o (.agg (ints .i64 C).toArray) _ b3 N3 ?_
  clear c K u
  try simp only[nm]
  refine Fl.last rfl rfl rfl rfl q122 (fun _ _ h1 h2=>h1.trans h2) (fun _ h=>h.size) (fun m4 g4 b4 b Y L=>?_)
  try simp only[nm]
  have N4:Ext Q m4:=N3.trans b4
  refine rdy 12 rfl fun K c=>?_
  refine zan (by rfl) ?_
  refine zar _ _ _ rfl g4 (ints .i64 C) rfl rfl _ _ L (by rw[zaa,P];rfl) (zag P) (zah _ _) ?_
  intro m5 ah ae
  have N5:Ext Q m5:=zab N4 ae Y
  refine c.o _ _ N5 (fun b=>?_)
  clear c K
  try simp only[nm]
  refine dne ?_
  go_wp2_with fail
  go_meet
  exact⟨_,rfl,Y,⟨C,P,ah,R⟩,N5⟩
 case rest=>
  obtain⟨be,rfl,ac,a9,Z⟩:=hcut
  have d9:Hid (A+1+1<be):=jh (q116 n.o.lt ac)
  obtain⟨j,k,n⟩:=xq3 j k n Z
  have l:=xxt l Z
  obtain⟨s,m⟩:=jq2 a9 (And.intro m.o d9.o)
  clear a9 Z ac
  generalize wc=a2 at*
  try go_wp2_with fail
  try simp only[nm]
  go_cut [6]from 24 to 34 (fun vq wq=>∃g,vq=.pointer (some ⟨g,0,none⟩)∧a2.heap.size≤g∧ElB wq g ((p.y+p.x)*(q.y+q.x))∧Ext a2 wq)
  case first=>
   have B0:Ext a2 a2.drew:=Ext.drew _
   refine wp_region_held_drew (S:=fun w'=>Ext a2 w') (by kernel_rfl) B0 (fun b=>?_)
   refine tke 0 (.pointer (some ⟨A,16,none⟩)) rfl (zaz (.pointer (some ⟨A,16,none⟩)) (by rfl) (fun w _=>by go_simp)) b ?_
   simp only[nm]
   refine tke 1 (.agg (ints .i64 pb).toArray) rfl (sld A 16 (fun w h=>rng_y (zak j.o h) af.o.len) q103 (zag am.o.len)) b ?_
   simp only[nm]
   refine tke 2 (.pointer (some ⟨A,0,none⟩)) rfl (zaz (.pointer (some ⟨A,0,none⟩)) (by rfl) (fun w _=>by go_simp)) b ?_
   simp only[nm]
   refine tke 3 (.agg (ints .i64 pa).toArray) rfl (sld A 0 (fun w h=>rng_x (zak j.o h)) q103 (zag af.o.len)) b ?_
   simp only[nm]
   refine tke 5 (.pointer (some ⟨(A+1),16,none⟩)) rfl (zaz (.pointer (some ⟨(A+1),16,none⟩)) (by rfl) (fun w _=>by go_simp)) b ?_
   simp only[nm]
   refine tke 6 (.agg (ints .i64 qb).toArray) rfl (sld (A+1) 16 (fun w h=>rng_y (zak k.o h) ab.o.len) q103 (zag ao.o.len)) b ?_
   simp only[nm]
   refine tke 7 (.pointer (some ⟨(A+1),0,none⟩)) rfl (zaz (.pointer (some ⟨(A+1),0,none⟩)) (by rfl) (fun w _=>by go_simp)) b ?_
   simp only[nm]
   refine tke 8 (.agg (ints .i64 qa).toArray) rfl (sld (A+1) 0 (fun w h=>rng_x (zak k.o h)) q103 (zag ab.o.len)) b ?_
   simp only[nm]
   refine Fl.go (f:=11) (d:=6) (zs:=(ints .i64 (List.replicate 16 0))) (T:=124) (B:=(a2).heap.size) ?_ b
   clear b
   refine Fl.step 4 rfl rfl rfl rfl rfl q122 (fun _ _ h1 h2=>h1.trans h2) (fun _ h=>h.size) (fun z1 u K a3 M c=>?_)
   have b7:Ext a2 z1:=B0.trans a3
   clear M
   go_simp
   refine(radd_f _ am.o.el af.o.el).mono ?_
   rintro e m1 ⟨v1,rfl,X,b1⟩
   obtain⟨z1,a3,l1⟩:=X.form
   subst a3
   have N1:Ext a2 m1:=b7.trans b1
   refine c.o (.agg (ints .i64 z1).toArray) _ b1 N1 ?_
   clear c K u
   try simp only[nm]
   refine Fl.step 9 rfl rfl rfl rfl rfl q122 (fun _ _ h1 h2=>h1.trans h2) (fun _ h=>h.size) (fun z2 u K a4 M c=>?_)
   have b5:Ext a2 z2:=N1.trans a4
   clear M
   go_simp
   refine(radd_f _ ao.o.el ab.o.el).mono ?_
   rintro e m2 ⟨v2,rfl,U,b2⟩
   obtain⟨z2,a4,l2⟩:=U.form
   subst a4
   have N2:Ext a2 m2:=b5.trans b2
   refine c.o (.agg (ints .i64 z2).toArray) _ b2 N2 ?_
   clear c K u
   try simp only[nm]
   refine Fl.step 10 rfl rfl rfl rfl rfl q122 (fun _ _ h1 h2=>h1.trans h2) (fun _ h=>h.size) (fun C u K a5 M c=>?_)
   have b6:Ext a2 C:=N2.trans a5
   clear M
   go_simp
   refine(zcu _ X U).mono ?_
   rintro e m3 ⟨v3,rfl,R,b3⟩
   obtain⟨C,a5,P⟩:=R.form
   subst a5
   have N3:Ext a2 m3:=b6.trans b3
   refine c.o (.agg (ints .i64 C).toArray) _ b3 N3 ?_
   clear c K u
   try simp only[nm]
   refine Fl.last rfl rfl rfl rfl q122 (fun _ _ h1 h2=>h1.trans h2) (fun _ h=>h.size) (fun m4 g4 b4 b Y L=>?_)
   try simp only[nm]
   have N4:Ext a2 m4:=N3.trans b4
   refine rdy 12 rfl fun K c=>?_
   refine zan (by rfl) ?_
   refine zar _ _ _ rfl g4 (ints .i64 C) rfl rfl _ _ L (by rw[zaa,P];rfl) (zag P) (zah _ _) ?_
   intro m5 ah ae
   have N5:Ext a2 m5:=zab N4 ae Y
   refine c.o _ _ N5 (fun b=>?_)
   clear c K
   try simp only[nm]
   refine dne ?_
   go_wp2_with fail
   go_meet
   exact⟨_,rfl,Y,⟨C,P,ah,R⟩,N5⟩
  case rest=>
   obtain⟨bf,rfl,ac,a9,Z⟩:=hcut
   have db:Hid (be<bf):=jh (q116 s.o.lt ac)
   have s:=jh (s.o.ext Z)
   obtain⟨j,k,n⟩:=xq3 j k n Z
   have l:=xxt l Z
   obtain⟨D,m⟩:=jq2 a9 (And.intro m.o db.o)
   clear a9 Z ac
   generalize wc=W at*
   try go_wp2_with fail
   try simp only[nm]
   go_cut [7]from 35 to 43 (fun vq wq=>∃g,vq=.pointer (some ⟨g,0,none⟩)∧W.heap.size≤g∧ElB wq g (p.t*q.t*(dF+dF))∧Ext W wq)
   case first=>
    have B0:Ext W W.drew:=Ext.drew _
    refine wp_region_held_drew (S:=fun w'=>Ext W w') (by kernel_rfl) B0 (fun b=>?_)
    refine tke 0 (.pointer (some ⟨A,48,none⟩)) rfl (zaz (.pointer (some ⟨A,48,none⟩)) (by rfl) (fun w _=>by go_simp)) b ?_
    simp only[nm]
    refine tke 1 (.agg (ints .i64 pd).toArray) rfl (sld A 48 (fun w h=>rng_t (zak j.o h) af.o.len am.o.len br.o.len) q103 (zag ce.o.len)) b ?_
    simp only[nm]
    refine tke 2 (.pointer (some ⟨(A+1),48,none⟩)) rfl (zaz (.pointer (some ⟨(A+1),48,none⟩)) (by rfl) (fun w _=>by go_simp)) b ?_
    simp only[nm]
    refine tke 3 (.agg (ints .i64 qd).toArray) rfl (sld (A+1) 48 (fun w h=>rng_t (zak k.o h) ab.o.len ao.o.len bp.o.len) q103 (zag cn.o.len)) b ?_
    simp only[nm]
    refine tke 5 (.agg (ints .i64 dL).toArray) rfl (sld 5 0 (fun w h=>c2.o.ext (l.o.trans h)) q103 (zag d_el.len)) b ?_
    simp only[nm]
    refine tke 6 (.agg (ints .i64 dL).toArray) rfl (sld 5 0 (fun w h=>c2.o.ext (l.o.trans h)) q103 (zag d_el.len)) b ?_
    simp only[nm]
    refine Fl.go (f:=9) (d:=7) (zs:=(ints .i64 (List.replicate 16 0))) (T:=124) (B:=(W).heap.size) ?_ b
    clear b
    refine Fl.step 4 rfl rfl rfl rfl rfl q122 (fun _ _ h1 h2=>h1.trans h2) (fun _ h=>h.size) (fun z1 u K a3 M c=>?_)
    have b7:Ext W z1:=B0.trans a3
    clear M
    go_simp
    refine(zcu _ ce.o.el cn.o.el).mono ?_
    rintro e m1 ⟨v1,rfl,X,b1⟩
    obtain⟨z1,a3,l1⟩:=X.form
    subst a3
    have N1:Ext W m1:=b7.trans b1
    refine c.o (.agg (ints .i64 z1).toArray) _ b1 N1 ?_
    clear c K u
    try simp only[nm]
    refine Fl.step 7 rfl rfl rfl rfl rfl q122 (fun _ _ h1 h2=>h1.trans h2) (fun _ h=>h.size) (fun z2 u K a4 M c=>?_)
    have b5:Ext W z2:=N1.trans a4
    clear M
    go_simp
    refine(radd_f _ d_el.el d_el.el).mono ?_
    rintro e m2 ⟨v2,rfl,U,b2⟩
    obtain⟨z2,a4,l2⟩:=U.form
    subst a4
    have N2:Ext W m2:=b5.trans b2
    refine c.o (.agg (ints .i64 z2).toArray) _ b2 N2 ?_
    clear c K u
    try simp only[nm]
    refine Fl.step 8 rfl rfl rfl rfl rfl q122 (fun _ _ h1 h2=>h1.trans h2) (fun _ h=>h.size) (fun C u K a5 M c=>?_)
    have b6:Ext W C:=N2.trans a5
    clear M
    go_simp
    refine(zcu _ X U).mono ?_
    rintro e m3 ⟨v3,rfl,R,b3⟩
    obtain⟨C,a5,P⟩:=R.form
    subst a5
    have N3:Ext W m3:=b6.trans b3
    refine c.o (.agg (ints .i64 C).toArray) _ b3 N3 ?_
    clear c K u
    try simp only[nm]
    refine Fl.last rfl rfl rfl rfl q122 (fun _ _ h1 h2=>h1.trans h2) (fun _ h=>h.size) (fun m4 g4 b4 b Y L=>?_)
    try simp only[nm]
    have N4:Ext W m4:=N3.trans b4
    refine rdy 10 rfl fun K c=>?_
    refine zan (by rfl) ?_
    refine zar _ _ _ rfl g4 (ints .i64 C) rfl rfl _ _ L (by rw[zaa,P];rfl) (zag P) (zah _ _) ?_
    intro m5 ah ae
    have N5:Ext W m5:=zab N4 ae Y
    refine c.o _ _ N5 (fun b=>?_)
    clear c K
    try simp only[nm]
    refine dne ?_
    go_wp2_with fail
    go_meet
    exact⟨_,rfl,Y,⟨C,P,ah,R⟩,N5⟩
   case rest=>
    obtain⟨b8,rfl,ac,a9,Z⟩:=hcut
    have d8:Hid (bf<b8):=jh (q116 D.o.lt ac)
    obtain⟨s,D⟩:=jq2 (s.o.ext Z) (D.o.ext Z)
    obtain⟨j,k,n⟩:=xq3 j k n Z
    have l:=xxt l Z
    obtain⟨E,m⟩:=jq2 a9 (And.intro m.o d8.o)
    clear a9 Z ac
    generalize wc=da at*
    go_wp2_with (first|(refine wpList_load_mid rfl _ _ rfl A 32 rfl _ _ (rng_z (j.o) af.o.len am.o.len) q103 rfl (zag br.o.len) ?_)|(refine wpList_load_mid rfl _ _ rfl (A+1) 32 rfl _ _ (rng_z (k.o) ab.o.len ao.o.len) q103 rfl (zag bp.o.len) ?_))
    refine(zcu da br.o.el bp.o.el).mono ?_
    rintro e bh ⟨r,rfl,H,a⟩
    obtain⟨z,hz,lz⟩:=H.form
    subst hz
    obtain⟨s,D,E⟩:=jq3 (s.o.ext a) (D.o.ext a) (E.o.ext a)
    obtain⟨j,k,n⟩:=xq3 j k n a
    have l:=xxt l a
    clear a
    obtain⟨HZ,a0,O⟩:=jq3 (Blk.made bh (ints .i64 (List.replicate 16 0)) 124) (Ext.alloc bh (.cells (ints .i64 (List.replicate 16 0)).toArray 124)) (zag lz)
    have N:Hid ((ints .i64 z).length=(ints .i64 (List.replicate 16 0)).length):=jh (by rw[zaa,lz];rfl)
    go_upto_region 5 with(refine ssb bh.heap.size (ints .i64 z) HZ.o N.o O.o (zah _ _) ?_;intro cc I G)
    have i:=jh (zab a0.o G (q101 _))
    obtain⟨ad,J⟩:=nxq bh.heap.size
    have d5:Hid (b8<ad):=jh (by rw[J];exact E.o.lt)
    rw[←J]at I⊢
    obtain⟨s,D,E⟩:=jq3 (s.o.ext i.o) (D.o.ext i.o) (E.o.ext i.o)
    obtain⟨j,k,n⟩:=xq3 j k n i.o
    have l:=xxt l i.o
    have F:Hid (ElB cc ad (p.z*q.z)):=jh ⟨z,lz,I,H⟩
    have m:=jh (And.intro m.o d5.o)
    clear I G HZ a0 i J H O N lz
    obtain⟨bb,V,a7,a6⟩:=F.o
    obtain⟨ai,ag,bg,ap⟩:=jq4 a7 a6 V (zag V)
    clear a7 a6 V
    go_wp2_with (first|(refine slb ad ai.o q103 ap.o ?_))
    refine(radd_f cc ag.o ag.o).mono ?_
    rintro e de ⟨r,rfl,H,a⟩
    obtain⟨z,hz,lz⟩:=H.form
    subst hz
    obtain⟨s,D,E,F⟩:=jq4 (s.o.ext a) (D.o.ext a) (E.o.ext a) (F.o.ext a)
    obtain⟨j,k,n⟩:=xq3 j k n a
    have l:=xxt l a
    clear a
    obtain⟨bb,V,a7,a6⟩:=F.o
    obtain⟨ai,ag,bg,ap⟩:=jq4 a7 a6 V (zag V)
    clear a7 a6 V
    have O:=jh (zag lz)
    have N:Hid ((ints .i64 z).length=(ints .i64 bb).length):=jh (by rw[zaa,zaa,lz,bg.o])
    go_upto_region 6 with(refine ssb ad (ints .i64 z) ai.o N.o O.o (zah _ _) ?_;intro cu I G)
    have s:=jh (s.o.grown G (by have:=m.o;simp;omega))
    have D:=jh (D.o.grown G (by have:=m.o;simp;omega))
    have E:=jh (E.o.grown G (by have:=m.o;simp;omega))
    have j:=jh (j.o.grown G (by have:=m.o;simp;omega))
    have k:=jh (k.o.grown G (by have:=m.o;simp;omega))
    have n:=jh (n.o.grown G (by have:=m.o;simp;omega))
    have l:=jh (zab l.o G (by have:=m.o;omega))
    have F:Hid (ElB cu ad (p.z*q.z+p.z*q.z)):=jh ⟨z,lz,I,H⟩
    clear I G H O N lz
    obtain⟨dc,aj,ar,av⟩:=D.o
    obtain⟨bo,bl,d7,bu⟩:=jq4 ar av aj (zag aj)
    clear ar av aj
    obtain⟨cx,al,aw,ax⟩:=s.o
    obtain⟨bq,bj,d6,bn⟩:=jq4 aw ax al (zag al)
    clear aw ax al
    go_wp2_with (first|(refine slb bf bo.o q103 bu.o ?_)|(refine slb be bq.o q103 bn.o ?_))
    refine(rsub_f cu bl.o bj.o).mono ?_
    rintro e ba ⟨r,rfl,H,a⟩
    obtain⟨z,hz,lz⟩:=H.form
    subst hz
    obtain⟨s,D,E,F⟩:=jq4 (s.o.ext a) (D.o.ext a) (E.o.ext a) (F.o.ext a)
    obtain⟨j,k,n⟩:=xq3 j k n a
    have l:=xxt l a
    clear a
    obtain⟨HZ,a0,O⟩:=jq3 (Blk.made ba (ints .i64 (List.replicate 16 0)) 124) (Ext.alloc ba (.cells (ints .i64 (List.replicate 16 0)).toArray 124)) (zag lz)
    have N:Hid ((ints .i64 z).length=(ints .i64 (List.replicate 16 0)).length):=jh (by rw[zaa,lz];rfl)
    go_upto_region 7 with(refine ssb ba.heap.size (ints .i64 z) HZ.o N.o O.o (zah _ _) ?_;intro co I G)
    have i:=jh (zab a0.o G (q101 _))
    obtain⟨aq,J⟩:=nxq ba.heap.size
    have d2:Hid (ad<aq):=jh (by rw[J];exact F.o.lt)
    rw[←J]at I⊢
    obtain⟨s,D,E,F⟩:=jq4 (s.o.ext i.o) (D.o.ext i.o) (E.o.ext i.o) (F.o.ext i.o)
    obtain⟨j,k,n⟩:=xq3 j k n i.o
    have l:=xxt l i.o
    have a1:Hid (ElB co aq (((p.y+p.x)*(q.y+q.x)) - ((p.y - p.x)*(q.y - q.x)))):=jh ⟨z,lz,I,H⟩
    have m:=jh (And.intro m.o d2.o)
    clear I G HZ a0 i J H O N lz
    obtain⟨bb,V,a7,a6⟩:=F.o
    obtain⟨ai,ag,bg,ap⟩:=jq4 a7 a6 V (zag V)
    clear a7 a6 V
    obtain⟨d0,ak,ay,az⟩:=E.o
    obtain⟨bw,bt,d3,bm⟩:=jq4 ay az ak (zag ak)
    clear ay az ak
    go_wp2_with (first|(refine slb ad ai.o q103 ap.o ?_)|(refine slb b8 bw.o q103 bm.o ?_))
    refine(rsub_f co ag.o bt.o).mono ?_
    rintro e bc ⟨r,rfl,H,a⟩
    obtain⟨z,hz,lz⟩:=H.form
    subst hz
    obtain⟨s,D,E,F,a1⟩:=jq5 (s.o.ext a) (D.o.ext a) (E.o.ext a) (F.o.ext a) (a1.o.ext a)
    obtain⟨j,k,n⟩:=xq3 j k n a
    have l:=xxt l a
    clear a
    obtain⟨HZ,a0,O⟩:=jq3 (Blk.made bc (ints .i64 (List.replicate 16 0)) 124) (Ext.alloc bc (.cells (ints .i64 (List.replicate 16 0)).toArray 124)) (zag lz)
    have N:Hid ((ints .i64 z).length=(ints .i64 (List.replicate 16 0)).length):=jh (by rw[zaa,lz];rfl)
    go_upto_region 8 with(refine ssb bc.heap.size (ints .i64 z) HZ.o N.o O.o (zah _ _) ?_;intro cl I G)
    have i:=jh (zab a0.o G (q101 _))
    obtain⟨b0,J⟩:=nxq bc.heap.size
    have d1:Hid (aq<b0):=jh (by rw[J];exact a1.o.lt)
    rw[←J]at I⊢
    obtain⟨s,D,E,F,a1⟩:=jq5 (s.o.ext i.o) (D.o.ext i.o) (E.o.ext i.o) (F.o.ext i.o) (a1.o.ext i.o)
    obtain⟨j,k,n⟩:=xq3 j k n i.o
    have l:=xxt l i.o
    have a8:Hid (ElB cl b0 ((p.z*q.z+p.z*q.z) - (p.t*q.t*(dF+dF)))):=jh ⟨z,lz,I,H⟩
    have m:=jh (And.intro m.o d1.o)
    clear I G HZ a0 i J H O N lz
    obtain⟨bb,V,a7,a6⟩:=F.o
    obtain⟨ai,ag,bg,ap⟩:=jq4 a7 a6 V (zag V)
    clear a7 a6 V
    obtain⟨d0,ak,ay,az⟩:=E.o
    obtain⟨bw,bt,d3,bm⟩:=jq4 ay az ak (zag ak)
    clear ay az ak
    go_wp2_with (first|(refine slb ad ai.o q103 ap.o ?_)|(refine slb b8 bw.o q103 bm.o ?_))
    refine(radd_f cl ag.o bt.o).mono ?_
    rintro e bi ⟨r,rfl,H,a⟩
    obtain⟨z,hz,lz⟩:=H.form
    subst hz
    obtain⟨s,D,E,F,a1,a8⟩:=jq6 (s.o.ext a) (D.o.ext a) (E.o.ext a) (F.o.ext a) (a1.o.ext a) (a8.o.ext a)
    obtain⟨j,k,n⟩:=xq3 j k n a
    have l:=xxt l a
    clear a
    obtain⟨HZ,a0,O⟩:=jq3 (Blk.made bi (ints .i64 (List.replicate 16 0)) 124) (Ext.alloc bi (.cells (ints .i64 (List.replicate 16 0)).toArray 124)) (zag lz)
    have N:Hid ((ints .i64 z).length=(ints .i64 (List.replicate 16 0)).length):=jh (by rw[zaa,lz];rfl)
    go_upto_region 9 with(refine ssb bi.heap.size (ints .i64 z) HZ.o N.o O.o (zah _ _) ?_;intro cb I G)
    have i:=jh (zab a0.o G (q101 _))
    obtain⟨au,J⟩:=nxq bi.heap.size
    have cy:Hid (b0<au):=jh (by rw[J];exact a8.o.lt)
    rw[←J]at I⊢
    obtain⟨s,D,E,F,a1,a8⟩:=jq6 (s.o.ext i.o) (D.o.ext i.o) (E.o.ext i.o) (F.o.ext i.o) (a1.o.ext i.o) (a8.o.ext i.o)
    obtain⟨j,k,n⟩:=xq3 j k n i.o
    have l:=xxt l i.o
    have an:Hid (ElB cb au ((p.z*q.z+p.z*q.z)+(p.t*q.t*(dF+dF)))):=jh ⟨z,lz,I,H⟩
    have m:=jh (And.intro m.o cy.o)
    clear I G HZ a0 i J H O N lz
    obtain⟨dc,aj,ar,av⟩:=D.o
    obtain⟨bo,bl,d7,bu⟩:=jq4 ar av aj (zag aj)
    clear ar av aj
    obtain⟨cx,al,aw,ax⟩:=s.o
    obtain⟨bq,bj,d6,bn⟩:=jq4 aw ax al (zag al)
    clear aw ax al
    go_wp2_with (first|(refine slb bf bo.o q103 bu.o ?_)|(refine slb be bq.o q103 bn.o ?_))
    refine(radd_f cb bl.o bj.o).mono ?_
    rintro e bd ⟨r,rfl,H,a⟩
    obtain⟨z,hz,lz⟩:=H.form
    subst hz
    obtain⟨s,D,E,F,a1,a8⟩:=jq6 (s.o.ext a) (D.o.ext a) (E.o.ext a) (F.o.ext a) (a1.o.ext a) (a8.o.ext a)
    have an:=jh (an.o.ext a)
    obtain⟨j,k,n⟩:=xq3 j k n a
    have l:=xxt l a
    clear a
    obtain⟨HZ,a0,O⟩:=jq3 (Blk.made bd (ints .i64 (List.replicate 16 0)) 124) (Ext.alloc bd (.cells (ints .i64 (List.replicate 16 0)).toArray 124)) (zag lz)
    have N:Hid ((ints .i64 z).length=(ints .i64 (List.replicate 16 0)).length):=jh (by rw[zaa,lz];rfl)
    go_upto_region 10 with(refine ssb bd.heap.size (ints .i64 z) HZ.o N.o O.o (zah _ _) ?_;intro aa I G)
    have i:=jh (zab a0.o G (q101 _))
    obtain⟨b9,J⟩:=nxq bd.heap.size
    have cz:Hid (au<b9):=jh (by rw[J];exact an.o.lt)
    rw[←J]at I⊢
    obtain⟨s,D,E,F,a1,a8⟩:=jq6 (s.o.ext i.o) (D.o.ext i.o) (E.o.ext i.o) (F.o.ext i.o) (a1.o.ext i.o) (a8.o.ext i.o)
    have an:=jh (an.o.ext i.o)
    obtain⟨j,k,n⟩:=xq3 j k n i.o
    have l:=xxt l i.o
    have cw:Hid (ElB aa b9 (((p.y+p.x)*(q.y+q.x))+((p.y - p.x)*(q.y - q.x)))):=jh ⟨z,lz,I,H⟩
    have m:=jh (And.intro m.o cz.o)
    clear I G HZ a0 i J H O N lz
    obtain⟨cs,bs,c0,ca⟩:=a1.o
    obtain⟨cq,bz,df,ci⟩:=jq4 c0 ca bs (zag bs)
    clear c0 ca bs
    obtain⟨cm,bk,cg,cr⟩:=a8.o
    obtain⟨c9,cf,dj,cv⟩:=jq4 cg cr bk (zag bk)
    clear cg cr bk
    obtain⟨cj,bv,cd,ct⟩:=an.o
    obtain⟨cp,c1,dg,c6⟩:=jq4 cd ct bv (zag bv)
    clear cd ct bv
    obtain⟨c3,bx,c7,c4⟩:=cw.o
    obtain⟨c5,ck,di,c8⟩:=jq4 c7 c4 bx (zag bx)
    clear c7 c4 bx
    have B0:Ext aa aa.drew:=Ext.drew _
    refine wp_region_held_drew (S:=fun w'=>Far (A+1+1) aa w') (by kernel_rfl) (zap B0) (fun b=>?_)
    refine tke 0 (.agg (ints .i64 cs).toArray) rfl (sld aq 0 (fun w h=>zat cq.o (by have:=m.o;omega) h) q103 ci.o) b ?_
    simp only[nm]
    refine tke 1 (.agg (ints .i64 cm).toArray) rfl (sld b0 0 (fun w h=>zat c9.o (by have:=m.o;omega) h) q103 cv.o) b ?_
    simp only[nm]
    refine tke 3 (.agg (ints .i64 c3).toArray) rfl (sld b9 0 (fun w h=>zat c5.o (by have:=m.o;omega) h) q103 c8.o) b ?_
    simp only[nm]
    refine tke 4 (.agg (ints .i64 cj).toArray) rfl (sld au 0 (fun w h=>zat cp.o (by have:=m.o;omega) h) q103 c6.o) b ?_
    simp only[nm]
    refine tke 6 (.agg (ints .i64 cm).toArray) rfl (sld b0 0 (fun w h=>zat c9.o (by have:=m.o;omega) h) q103 cv.o) b ?_
    simp only[nm]
    refine tke 7 (.agg (ints .i64 cj).toArray) rfl (sld au 0 (fun w h=>zat cp.o (by have:=m.o;omega) h) q103 c6.o) b ?_
    simp only[nm]
    refine tke 9 (.agg (ints .i64 cs).toArray) rfl (sld aq 0 (fun w h=>zat cq.o (by have:=m.o;omega) h) q103 ci.o) b ?_
    simp only[nm]
    refine tke 10 (.agg (ints .i64 c3).toArray) rfl (sld b9 0 (fun w h=>zat c5.o (by have:=m.o;omega) h) q103 c8.o) b ?_
    simp only[nm]
    refine rdy 2 rfl fun K c=>?_
    go_simp
    refine(zcu _ bz.o cf.o).mono ?_
    rintro e m1 ⟨v1,rfl,X,b1⟩
    obtain⟨z1,a3,l1⟩:=X.form
    subst a3
    have N1:Ext aa m1:=B0.trans b1
    refine c.o _ _ (zap N1) (fun b=>?_)
    clear c K
    try simp only[nm]
    refine rdy 5 rfl fun K c=>?_
    go_simp
    refine(zcu _ ck.o c1.o).mono ?_
    rintro e m2 ⟨v2,rfl,U,b2⟩
    obtain⟨z2,a4,l2⟩:=U.form
    subst a4
    have N2:Ext aa m2:=N1.trans b2
    refine c.o _ _ (zap N2) (fun b=>?_)
    clear c K
    try simp only[nm]
    refine rdy 8 rfl fun K c=>?_
    go_simp
    refine(zcu _ cf.o c1.o).mono ?_
    rintro e m3 ⟨v3,rfl,R,b3⟩
    obtain⟨C,a5,P⟩:=R.form
    subst a5
    have N3:Ext aa m3:=N2.trans b3
    refine c.o _ _ (zap N3) (fun b=>?_)
    clear c K
    try simp only[nm]
    refine rdy 11 rfl fun K c=>?_
    go_simp
    refine(zcu _ bz.o ck.o).mono ?_
    rintro e m4 ⟨v4,rfl,e4,b4⟩
    obtain⟨L,d4,Y⟩:=e4.form
    subst d4
    have N4:Ext aa m4:=N3.trans b4
    refine c.o _ _ (zap N4) (fun b=>?_)
    clear c K
    try simp only[nm]
    refine tke 12 (.agg (ptC z1 z2 C L).toArray) rfl (yi_build _ _ _ _ (build_pt (⟨⟨l1,X⟩,⟨l2,U⟩,⟨P,R⟩,⟨Y,e4⟩⟩:PtZ z1 z2 C L (p.sum q))) (by rfl) rfl (by simp[Act.eval])) b ?_
    simp only[nm]
    refine rdy 13 rfl fun K c=>?_
    refine zan (by rfl) ?_
    refine zar _ _ _ rfl (A+1+1) (ptC z1 z2 C L) rfl rfl _ _ (zak n.o N4) (by rw[zbq ((⟨⟨l1,X⟩,⟨l2,U⟩,⟨P,R⟩,⟨Y,e4⟩⟩:PtZ z1 z2 C L (p.sum q))),zaa];rfl) (zcm ((⟨⟨l1,X⟩,⟨l2,U⟩,⟨P,R⟩,⟨Y,e4⟩⟩:PtZ z1 z2 C L (p.sum q)))) (zef _ _ _ _) ?_
    intro m5 ah ae
    refine c.o _ _ (zby N4 ae) (fun b=>?_)
    clear c K
    try simp only[nm]
    refine dne ?_
    go_wp2_with fail
    refine bodyPost_ret (result_pt rfl _ (A+1+1) _ _ rfl ah q137 (zcm (⟨⟨l1,X⟩,⟨l2,U⟩,⟨P,R⟩,⟨Y,e4⟩⟩:PtZ z1 z2 C L (p.sum q)))) rfl ?_
    exact⟨_,rfl,⟨_,_,_,_,rfl,(⟨⟨l1,X⟩,⟨l2,U⟩,⟨P,R⟩,⟨Y,e4⟩⟩:PtZ z1 z2 C L (p.sum q))⟩,zab (l.o.trans N4) ae (by have:=m.o;omega)⟩
end Go.Proofs.YtgnfdonbholcdaaGreatDoor


