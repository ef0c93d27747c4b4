/- Lemmas. -/
import Derived.Test.YtgnfdonbholcdaaDoorQz05
namespace Go.Proofs.YtgnfdonbholcdaaDoor
set_option linter.unusedVariables false
set_option maxRecDepth 100000
set_option maxHeartbeats 32000000
set_option linter.unusedSimpArgs false
open Go.RowKit
theorem result_pt {P:Program} {w:World} {e:Func} {p:Tmp} {d:TypeId} {i:Array Field}(h:e.results=#[.cell p d])(b:Array Value)(c:Nat)(t:TypeId)(a:List Value)
  (k:b.getD p undef=.pointer (some ⟨c,0,none⟩)) (j:Blk w c a t) (f:P.underlying d=some (.struct i)) (g:(P.info? d).map (·.size)=some a.length):
  (results e b).run P w=.ok (.agg a.toArray) w:=
 results_cell_row h b w c t a.toArray (0,0) _ k j f rfl (by simpa using g)
theorem rsum_f(u v:Value)(p q:ES)(w:World)(hu:PtV u p)(hv:PtV v q)(hG:GlobD w):Calls Tryd.prog 59 #[u,v] w fun e w'=>∃r,e=.returned r∧PtV r (p.sum q)∧Below w.heap.size w w':=by
 obtain⟨pa,pb,pc,pd,rfl,hp⟩:=hu
 obtain⟨qa,qb,qc,qd,rfl,hq⟩:=hv
 obtain⟨z1,z2,C,J⟩:=id hp
 obtain⟨a9,ak,bo,bx,de⟩:=jq5 z1 z2 C J (zcg hp)
 clear z1 z2 C J hp
 obtain⟨z1,z2,C,J⟩:=id hq
 obtain⟨a8,am,br,cb,dg⟩:=jq5 z1 z2 C J (zcg hq)
 clear z1 z2 C J hq
 have c4:=jh hG
 clear hG
 have HB:=jh (boxes3 w (ptC pa pb pc pd) (ptC qa qb qc qd) (ints .i64 (List.replicate 64 0)) 89 89 89)
 go_enter Tryd.func59,Tryd.ntmps59
 go_upto_region 1 with(fail)
 obtain⟨H1,H2,H3,l⟩:=HB.o
 change Code.wp _ _ _ _ (((w.alloc (.cells (ptC pa pb pc pd).toArray 89)).alloc (.cells (ptC qa qb qc qd).toArray 89)).alloc (.cells (ints .i64 (List.replicate 64 0)).toArray 89))
 generalize ((w.alloc (.cells (ptC pa pb pc pd).toArray 89)).alloc (.cells (ptC qa qb qc qd).toArray 89)).alloc (.cells (ints .i64 (List.replicate 64 0)).toArray 89)=Q at*
 obtain⟨A,hA⟩:=nxq w.heap.size
 have m:Hid (w.heap.size≤A):=jh (by omega)
 rw[←hA]at H1 H2 H3⊢
 obtain⟨k,j,n⟩:=jq3 H1 H2 H3
 have l:Hid (Ext w Q):=jh l
 clear hA HB H1 H2 H3
 try go_wp2_with fail
 try simp only[nm]
 go_cut [5]from 13 to 23 (fun vq wq=>∃g,vq=.pointer (some ⟨g,0,none⟩)∧Q.heap.size≤g∧ElB wq g ((p.y - p.x)*(q.y - q.x))∧Ext Q wq)
 case first=>
  have B0:Ext Q Q.drew:=Ext.drew _
  refine wp_region_held_drew (S:=fun w'=>Ext Q w') (by kernel_rfl) B0 (fun b=>?_)
  refine tke 0 (.pointer (some ⟨A,16,none⟩)) rfl (zbb (.pointer (some ⟨A,16,none⟩)) (by rfl) (fun w _=>by go_simp)) b ?_
  simp only[nm]
  refine tke 1 (.agg (ints .i64 pb).toArray) rfl (sld A 16 (fun w h=>rng_y (zal k.o h) a9.o.len) Tryd.underlying87 (zaf ak.o.len)) b ?_
  simp only[nm]
  refine tke 2 (.pointer (some ⟨A,0,none⟩)) rfl (zbb (.pointer (some ⟨A,0,none⟩)) (by rfl) (fun w _=>by go_simp)) b ?_
  simp only[nm]
  refine tke 3 (.agg (ints .i64 pa).toArray) rfl (sld A 0 (fun w h=>rng_x (zal k.o h)) Tryd.underlying87 (zaf a9.o.len)) b ?_
  simp only[nm]
  refine tke 5 (.pointer (some ⟨(A+1),16,none⟩)) rfl (zbb (.pointer (some ⟨(A+1),16,none⟩)) (by rfl) (fun w _=>by go_simp)) b ?_
  simp only[nm]
  refine tke 6 (.agg (ints .i64 qb).toArray) rfl (sld (A+1) 16 (fun w h=>rng_y (zal j.o h) a8.o.len) Tryd.underlying87 (zaf am.o.len)) b ?_
  simp only[nm]
  refine tke 7 (.pointer (some ⟨(A+1),0,none⟩)) rfl (zbb (.pointer (some ⟨(A+1),0,none⟩)) (by rfl) (fun w _=>by go_simp)) b ?_
  simp only[nm]
  refine tke 8 (.agg (ints .i64 qa).toArray) rfl (sld (A+1) 0 (fun w h=>rng_x (zal j.o h)) Tryd.underlying87 (zaf a8.o.len)) b ?_
  simp only[nm]
  refine Fl.go (f:=11) (d:=5) (zs:=(ints .i64 (List.replicate 16 0))) (T:=87) (B:=(Q).heap.size) ?_ b
  clear b
  refine Fl.step 4 rfl rfl rfl rfl rfl Tryd.zeroValue87 (fun _ _ h1 h2=>h1.trans h2) (fun _ h=>h.size) (fun z1 u K a2 P c=>?_)
  have az:Ext Q z1:=B0.trans a2
  clear P
  go_simp
  refine(rsub_f _ ak.o.el a9.o.el).mono ?_
  rintro e m1 ⟨v1,rfl,U,b1⟩
  obtain⟨z1,a2,l1⟩:=U.form
  subst a2
  have N1:Ext Q m1:=az.trans b1
  refine c.o (.agg (ints .i64 z1).toArray) _ b1 N1 ?_
  clear c K u
  try simp only[nm]
  refine Fl.step 9 rfl rfl rfl rfl rfl Tryd.zeroValue87 (fun _ _ h1 h2=>h1.trans h2) (fun _ h=>h.size) (fun z2 u K a3 P c=>?_)
  have ap:Ext Q z2:=N1.trans a3
  clear P
  go_simp
  refine(rsub_f _ am.o.el a8.o.el).mono ?_
  rintro e m2 ⟨v2,rfl,V,b2⟩
  obtain⟨z2,a3,l2⟩:=V.form
  subst a3
  have N2:Ext Q m2:=ap.trans b2
  refine c.o (.agg (ints .i64 z2).toArray) _ b2 N2 ?_
  clear c K u
  try simp only[nm]
  refine Fl.step 10 rfl rfl rfl rfl rfl Tryd.zeroValue87 (fun _ _ h1 h2=>h1.trans h2) (fun _ h=>h.size) (fun C u K a1 P c=>?_)
  have b0:Ext Q C:=N2.trans a1
  clear P
  go_simp
  refine(zcm _ U V).mono ?_
  rintro e m3 ⟨v3,rfl,X,b3⟩
  obtain⟨C,a1,O⟩:=X.form
  subst a1
  have N3:Ext Q m3:=b0.trans b3
  refine c.o (.agg (ints .i64 C).toArray) _ b3 N3 ?_
  clear c K u
  try simp only[nm]
  refine Fl.last rfl rfl rfl rfl Tryd.zeroValue87 (fun _ _ h1 h2=>h1.trans h2) (fun _ h=>h.size) (fun m4 g4 b4 b l4 J=>?_)
  try simp only[nm]
  have N4:Ext Q m4:=N3.trans b4
  refine rdy 12 rfl fun K c=>?_
  refine zan (by rfl) ?_
  refine zaq _ _ _ rfl g4 (ints .i64 C) rfl rfl _ _ J (by rw[zaa,O];rfl) (zaf O) (zai _ _) ?_
  intro m5 ae ac
  have N5:Ext Q m5:=zab N4 ac l4
  refine c.o _ _ N5 (fun b=>?_)
  clear c K
  try simp only[nm]
  refine dne ?_
  go_wp2_with fail
  go_meet
  exact⟨_,rfl,l4,⟨C,O,ae,X⟩,N5⟩
 case rest=>
  obtain⟨b6,rfl,ab,ad,hX⟩:=hcut
  have cy:Hid (A+1+1<b6):=jh (q109 n.o.lt ab)
  obtain⟨k,j,n⟩:=xq3 k j n hX
  have l:=xxt l hX
  obtain⟨s,m⟩:=jq2 ad (And.intro m.o cy.o)
  clear ad hX ab
  generalize wc=a0 at*
  try go_wp2_with fail
  try simp only[nm]
  go_cut [6]from 24 to 34 (fun vq wq=>∃g,vq=.pointer (some ⟨g,0,none⟩)∧a0.heap.size≤g∧ElB wq g ((p.y+p.x)*(q.y+q.x))∧Ext a0 wq)
  case first=>
   have B0:Ext a0 a0.drew:=Ext.drew _
   refine wp_region_held_drew (S:=fun w'=>Ext a0 w') (by kernel_rfl) B0 (fun b=>?_)
   refine tke 0 (.pointer (some ⟨A,16,none⟩)) rfl (zbb (.pointer (some ⟨A,16,none⟩)) (by rfl) (fun w _=>by go_simp)) b ?_
   simp only[nm]
   refine tke 1 (.agg (ints .i64 pb).toArray) rfl (sld A 16 (fun w h=>rng_y (zal k.o h) a9.o.len) Tryd.underlying87 (zaf ak.o.len)) b ?_
   simp only[nm]
   refine tke 2 (.pointer (some ⟨A,0,none⟩)) rfl (zbb (.pointer (some ⟨A,0,none⟩)) (by rfl) (fun w _=>by go_simp)) b ?_
   simp only[nm]
   refine tke 3 (.agg (ints .i64 pa).toArray) rfl (sld A 0 (fun w h=>rng_x (zal k.o h)) Tryd.underlying87 (zaf a9.o.len)) b ?_
   simp only[nm]
   refine tke 5 (.pointer (some ⟨(A+1),16,none⟩)) rfl (zbb (.pointer (some ⟨(A+1),16,none⟩)) (by rfl) (fun w _=>by go_simp)) b ?_
   simp only[nm]
   refine tke 6 (.agg (ints .i64 qb).toArray) rfl (sld (A+1) 16 (fun w h=>rng_y (zal j.o h) a8.o.len) Tryd.underlying87 (zaf am.o.len)) b ?_
   simp only[nm]
   refine tke 7 (.pointer (some ⟨(A+1),0,none⟩)) rfl (zbb (.pointer (some ⟨(A+1),0,none⟩)) (by rfl) (fun w _=>by go_simp)) b ?_
   simp only[nm]
   refine tke 8 (.agg (ints .i64 qa).toArray) rfl (sld (A+1) 0 (fun w h=>rng_x (zal j.o h)) Tryd.underlying87 (zaf a8.o.len)) b ?_
   simp only[nm]
   refine Fl.go (f:=11) (d:=6) (zs:=(ints .i64 (List.replicate 16 0))) (T:=87) (B:=(a0).heap.size) ?_ b
   clear b
   refine Fl.step 4 rfl rfl rfl rfl rfl Tryd.zeroValue87 (fun _ _ h1 h2=>h1.trans h2) (fun _ h=>h.size) (fun z1 u K a2 P c=>?_)
   have az:Ext a0 z1:=B0.trans a2
   clear P
   go_simp
   refine(radd_f _ ak.o.el a9.o.el).mono ?_
   rintro e m1 ⟨v1,rfl,U,b1⟩
   obtain⟨z1,a2,l1⟩:=U.form
   subst a2
   have N1:Ext a0 m1:=az.trans b1
   refine c.o (.agg (ints .i64 z1).toArray) _ b1 N1 ?_
   clear c K u
   try simp only[nm]
   refine Fl.step 9 rfl rfl rfl rfl rfl Tryd.zeroValue87 (fun _ _ h1 h2=>h1.trans h2) (fun _ h=>h.size) (fun z2 u K a3 P c=>?_)
   have ap:Ext a0 z2:=N1.trans a3
   clear P
   go_simp
   refine(radd_f _ am.o.el a8.o.el).mono ?_
   rintro e m2 ⟨v2,rfl,V,b2⟩
   obtain⟨z2,a3,l2⟩:=V.form
   subst a3
   have N2:Ext a0 m2:=ap.trans b2
   refine c.o (.agg (ints .i64 z2).toArray) _ b2 N2 ?_
   clear c K u
   try simp only[nm]
   refine Fl.step 10 rfl rfl rfl rfl rfl Tryd.zeroValue87 (fun _ _ h1 h2=>h1.trans h2) (fun _ h=>h.size) (fun C u K a1 P c=>?_)
   have b0:Ext a0 C:=N2.trans a1
   clear P
   go_simp
   refine(zcm _ U V).mono ?_
   rintro e m3 ⟨v3,rfl,X,b3⟩
   obtain⟨C,a1,O⟩:=X.form
   subst a1
   have N3:Ext a0 m3:=b0.trans b3
   refine c.o (.agg (ints .i64 C).toArray) _ b3 N3 ?_
   clear c K u
   try simp only[nm]
   refine Fl.last rfl rfl rfl rfl Tryd.zeroValue87 (fun _ _ h1 h2=>h1.trans h2) (fun _ h=>h.size) (fun m4 g4 b4 b l4 J=>?_)
   try simp only[nm]
   have N4:Ext a0 m4:=N3.trans b4
   refine rdy 12 rfl fun K c=>?_
   refine zan (by rfl) ?_
   refine zaq _ _ _ rfl g4 (ints .i64 C) rfl rfl _ _ J (by rw[zaa,O];rfl) (zaf O) (zai _ _) ?_
   intro m5 ae ac
   have N5:Ext a0 m5:=zab N4 ac l4
   refine c.o _ _ N5 (fun b=>?_)
   clear c K
   try simp only[nm]
   refine dne ?_
   go_wp2_with fail
   go_meet
   exact⟨_,rfl,l4,⟨C,O,ae,X⟩,N5⟩
  case rest=>
   obtain⟨bd,rfl,ab,ad,hX⟩:=hcut
   have d3:Hid (b6<bd):=jh (q109 s.o.lt ab)
   have s:=jh (s.o.ext hX)
   obtain⟨k,j,n⟩:=xq3 k j n hX
   have l:=xxt l hX
   obtain⟨D,m⟩:=jq2 ad (And.intro m.o d3.o)
   clear ad hX ab
   generalize wc=Z at*
   try go_wp2_with fail
   try simp only[nm]
   go_cut [7]from 35 to 43 (fun vq wq=>∃g,vq=.pointer (some ⟨g,0,none⟩)∧Z.heap.size≤g∧ElB wq g (p.t*q.t*(dF+dF))∧Ext Z wq)
   case first=>
    have B0:Ext Z Z.drew:=Ext.drew _
    refine wp_region_held_drew (S:=fun w'=>Ext Z w') (by kernel_rfl) B0 (fun b=>?_)
    refine tke 0 (.pointer (some ⟨A,48,none⟩)) rfl (zbb (.pointer (some ⟨A,48,none⟩)) (by rfl) (fun w _=>by go_simp)) b ?_
    simp only[nm]
    refine tke 1 (.agg (ints .i64 pd).toArray) rfl (sld A 48 (fun w h=>rng_t (zal k.o h) a9.o.len ak.o.len bo.o.len) Tryd.underlying87 (zaf bx.o.len)) b ?_
    simp only[nm]
    refine tke 2 (.pointer (some ⟨(A+1),48,none⟩)) rfl (zbb (.pointer (some ⟨(A+1),48,none⟩)) (by rfl) (fun w _=>by go_simp)) b ?_
    simp only[nm]
    refine tke 3 (.agg (ints .i64 qd).toArray) rfl (sld (A+1) 48 (fun w h=>rng_t (zal j.o h) a8.o.len am.o.len br.o.len) Tryd.underlying87 (zaf cb.o.len)) b ?_
    simp only[nm]
    refine tke 5 (.agg (ints .i64 dL).toArray) rfl (sld 3 0 (fun w h=>c4.o.ext (l.o.trans h)) Tryd.underlying87 (zaf d_el.len)) b ?_
    simp only[nm]
    refine tke 6 (.agg (ints .i64 dL).toArray) rfl (sld 3 0 (fun w h=>c4.o.ext (l.o.trans h)) Tryd.underlying87 (zaf d_el.len)) b ?_
    simp only[nm]
    refine Fl.go (f:=9) (d:=7) (zs:=(ints .i64 (List.replicate 16 0))) (T:=87) (B:=(Z).heap.size) ?_ b
    clear b
    refine Fl.step 4 rfl rfl rfl rfl rfl Tryd.zeroValue87 (fun _ _ h1 h2=>h1.trans h2) (fun _ h=>h.size) (fun z1 u K a2 P c=>?_)
    have az:Ext Z z1:=B0.trans a2
    clear P
    go_simp
    refine(zcm _ bx.o.el cb.o.el).mono ?_
    rintro e m1 ⟨v1,rfl,U,b1⟩
    obtain⟨z1,a2,l1⟩:=U.form
    subst a2
    have N1:Ext Z m1:=az.trans b1
    refine c.o (.agg (ints .i64 z1).toArray) _ b1 N1 ?_
    clear c K u
    try simp only[nm]
    refine Fl.step 7 rfl rfl rfl rfl rfl Tryd.zeroValue87 (fun _ _ h1 h2=>h1.trans h2) (fun _ h=>h.size) (fun z2 u K a3 P c=>?_)
    have ap:Ext Z z2:=N1.trans a3
    clear P
    go_simp
    refine(radd_f _ d_el.el d_el.el).mono ?_
    rintro e m2 ⟨v2,rfl,V,b2⟩
    obtain⟨z2,a3,l2⟩:=V.form
    subst a3
    have N2:Ext Z m2:=ap.trans b2
    refine c.o (.agg (ints .i64 z2).toArray) _ b2 N2 ?_
    clear c K u
    try simp only[nm]
    refine Fl.step 8 rfl rfl rfl rfl rfl Tryd.zeroValue87 (fun _ _ h1 h2=>h1.trans h2) (fun _ h=>h.size) (fun C u K a1 P c=>?_)
    have b0:Ext Z C:=N2.trans a1
    clear P
    go_simp
    refine(zcm _ U V).mono ?_
    rintro e m3 ⟨v3,rfl,X,b3⟩
    obtain⟨C,a1,O⟩:=X.form
    subst a1
    have N3:Ext Z m3:=b0.trans b3
    refine c.o (.agg (ints .i64 C).toArray) _ b3 N3 ?_
    clear c K u
    try simp only[nm]
    refine Fl.last rfl rfl rfl rfl Tryd.zeroValue87 (fun _ _ h1 h2=>h1.trans h2) (fun _ h=>h.size) (fun m4 g4 b4 b l4 J=>?_)
    try simp only[nm]
    have N4:Ext Z m4:=N3.trans b4
    refine rdy 10 rfl fun K c=>?_
    refine zan (by rfl) ?_
    refine zaq _ _ _ rfl g4 (ints .i64 C) rfl rfl _ _ J (by rw[zaa,O];rfl) (zaf O) (zai _ _) ?_
    intro m5 ae ac
    have N5:Ext Z m5:=zab N4 ac l4
    refine c.o _ _ N5 (fun b=>?_)
    clear c K
    try simp only[nm]
    refine dne ?_
    go_wp2_with fail
    go_meet
    exact⟨_,rfl,l4,⟨C,O,ae,X⟩,N5⟩
   case rest=>
    obtain⟨bg,rfl,ab,ad,hX⟩:=hcut
    have d1:Hid (bd<bg):=jh (q109 D.o.lt ab)
    obtain⟨s,D⟩:=jq2 (s.o.ext hX) (D.o.ext hX)
    obtain⟨k,j,n⟩:=xq3 k j n hX
    have l:=xxt l hX
    obtain⟨E,m⟩:=jq2 ad (And.intro m.o d1.o)
    clear ad hX ab
    generalize wc=d8 at*
    go_wp2_with (first|(refine wpList_load_mid rfl _ _ rfl A 32 rfl _ _ (rng_z (k.o) a9.o.len ak.o.len) Tryd.underlying87 rfl (zaf bo.o.len) ?_)|(refine wpList_load_mid rfl _ _ rfl (A+1) 32 rfl _ _ (rng_z (j.o) a8.o.len am.o.len) Tryd.underlying87 rfl (zaf br.o.len) ?_))
    refine(zcm d8 bo.o.el br.o.el).mono ?_
    rintro e b7 ⟨r,rfl,H,a⟩
    obtain⟨z,hz,lz⟩:=H.form
    subst hz
    obtain⟨s,D,E⟩:=jq3 (s.o.ext a) (D.o.ext a) (E.o.ext a)
    obtain⟨k,j,n⟩:=xq3 k j n a
    have l:=xxt l a
    clear a
    obtain⟨HZ,Y,M⟩:=jq3 (Blk.made b7 (ints .i64 (List.replicate 16 0)) 87) (Ext.alloc b7 (.cells (ints .i64 (List.replicate 16 0)).toArray 87)) (zaf lz)
    have N:Hid ((ints .i64 z).length=(ints .i64 (List.replicate 16 0)).length):=jh (by rw[zaa,lz];rfl)
    go_upto_region 5 with(refine ssb b7.heap.size (ints .i64 z) HZ.o N.o M.o (zai _ _) ?_;intro c3 I G)
    have i:=jh (zab Y.o G (q101 _))
    obtain⟨a7,L⟩:=nxq b7.heap.size
    have d6:Hid (bg<a7):=jh (by rw[L];exact E.o.lt)
    rw[←L]at I⊢
    obtain⟨s,D,E⟩:=jq3 (s.o.ext i.o) (D.o.ext i.o) (E.o.ext i.o)
    obtain⟨k,j,n⟩:=xq3 k j n i.o
    have l:=xxt l i.o
    have F:Hid (ElB c3 a7 (p.z*q.z)):=jh ⟨z,lz,I,H⟩
    have m:=jh (And.intro m.o d6.o)
    clear I G HZ Y i L H M N lz
    obtain⟨b9,R,a5,a4⟩:=F.o
    obtain⟨af,aj,bc,an⟩:=jq4 a5 a4 R (zaf R)
    clear a5 a4 R
    go_wp2_with (first|(refine slb a7 af.o Tryd.underlying87 an.o ?_))
    refine(radd_f c3 aj.o aj.o).mono ?_
    rintro e df ⟨r,rfl,H,a⟩
    obtain⟨z,hz,lz⟩:=H.form
    subst hz
    obtain⟨s,D,E,F⟩:=jq4 (s.o.ext a) (D.o.ext a) (E.o.ext a) (F.o.ext a)
    obtain⟨k,j,n⟩:=xq3 k j n a
    have l:=xxt l a
    clear a
    obtain⟨b9,R,a5,a4⟩:=F.o
    obtain⟨af,aj,bc,an⟩:=jq4 a5 a4 R (zaf R)
    clear a5 a4 R
    have M:=jh (zaf lz)
    have N:Hid ((ints .i64 z).length=(ints .i64 b9).length):=jh (by rw[zaa,zaa,lz,bc.o])
    go_upto_region 6 with(refine ssb a7 (ints .i64 z) af.o N.o M.o (zai _ _) ?_;intro cd I G)
    have s:=jh (s.o.grown G (by have:=m.o;simp;omega))
    have D:=jh (D.o.grown G (by have:=m.o;simp;omega))
    have E:=jh (E.o.grown G (by have:=m.o;simp;omega))
    have k:=jh (k.o.grown G (by have:=m.o;simp;omega))
    have j:=jh (j.o.grown G (by have:=m.o;simp;omega))
    have n:=jh (n.o.grown G (by have:=m.o;simp;omega))
    have l:=jh (zab l.o G (by have:=m.o;omega))
    have F:Hid (ElB cd a7 (p.z*q.z+p.z*q.z)):=jh ⟨z,lz,I,H⟩
    clear I G H M N lz
    obtain⟨d4,ai,aw,b5⟩:=D.o
    obtain⟨bi,bp,cz,bq⟩:=jq4 aw b5 ai (zaf ai)
    clear aw b5 ai
    obtain⟨cw,ah,ax,aq⟩:=s.o
    obtain⟨bs,bj,d2,bl⟩:=jq4 ax aq ah (zaf ah)
    clear ax aq ah
    go_wp2_with (first|(refine slb bd bi.o Tryd.underlying87 bq.o ?_)|(refine slb b6 bs.o Tryd.underlying87 bl.o ?_))
    refine(rsub_f cd bp.o bj.o).mono ?_
    rintro e b8 ⟨r,rfl,H,a⟩
    obtain⟨z,hz,lz⟩:=H.form
    subst hz
    obtain⟨s,D,E,F⟩:=jq4 (s.o.ext a) (D.o.ext a) (E.o.ext a) (F.o.ext a)
    obtain⟨k,j,n⟩:=xq3 k j n a
    have l:=xxt l a
    clear a
    obtain⟨HZ,Y,M⟩:=jq3 (Blk.made b8 (ints .i64 (List.replicate 16 0)) 87) (Ext.alloc b8 (.cells (ints .i64 (List.replicate 16 0)).toArray 87)) (zaf lz)
    have N:Hid ((ints .i64 z).length=(ints .i64 (List.replicate 16 0)).length):=jh (by rw[zaa,lz];rfl)
    go_upto_region 7 with(refine ssb b8.heap.size (ints .i64 z) HZ.o N.o M.o (zai _ _) ?_;intro cf I G)
    have i:=jh (zab Y.o G (q101 _))
    obtain⟨ao,L⟩:=nxq b8.heap.size
    have da:Hid (a7<ao):=jh (by rw[L];exact F.o.lt)
    rw[←L]at I⊢
    obtain⟨s,D,E,F⟩:=jq4 (s.o.ext i.o) (D.o.ext i.o) (E.o.ext i.o) (F.o.ext i.o)
    obtain⟨k,j,n⟩:=xq3 k j n i.o
    have l:=xxt l i.o
    have W:Hid (ElB cf ao (((p.y+p.x)*(q.y+q.x)) - ((p.y - p.x)*(q.y - q.x)))):=jh ⟨z,lz,I,H⟩
    have m:=jh (And.intro m.o da.o)
    clear I G HZ Y i L H M N lz
    obtain⟨b9,R,a5,a4⟩:=F.o
    obtain⟨af,aj,bc,an⟩:=jq4 a5 a4 R (zaf R)
    clear a5 a4 R
    obtain⟨cx,ag,ar,au⟩:=E.o
    obtain⟨bt,bu,cu,bv⟩:=jq4 ar au ag (zaf ag)
    clear ar au ag
    go_wp2_with (first|(refine slb a7 af.o Tryd.underlying87 an.o ?_)|(refine slb bg bt.o Tryd.underlying87 bv.o ?_))
    refine(rsub_f cf aj.o bu.o).mono ?_
    rintro e ba ⟨r,rfl,H,a⟩
    obtain⟨z,hz,lz⟩:=H.form
    subst hz
    obtain⟨s,D,E,F,W⟩:=jq5 (s.o.ext a) (D.o.ext a) (E.o.ext a) (F.o.ext a) (W.o.ext a)
    obtain⟨k,j,n⟩:=xq3 k j n a
    have l:=xxt l a
    clear a
    obtain⟨HZ,Y,M⟩:=jq3 (Blk.made ba (ints .i64 (List.replicate 16 0)) 87) (Ext.alloc ba (.cells (ints .i64 (List.replicate 16 0)).toArray 87)) (zaf lz)
    have N:Hid ((ints .i64 z).length=(ints .i64 (List.replicate 16 0)).length):=jh (by rw[zaa,lz];rfl)
    go_upto_region 8 with(refine ssb ba.heap.size (ints .i64 z) HZ.o N.o M.o (zai _ _) ?_;intro ct I G)
    have i:=jh (zab Y.o G (q101 _))
    obtain⟨av,L⟩:=nxq ba.heap.size
    have d9:Hid (ao<av):=jh (by rw[L];exact W.o.lt)
    rw[←L]at I⊢
    obtain⟨s,D,E,F,W⟩:=jq5 (s.o.ext i.o) (D.o.ext i.o) (E.o.ext i.o) (F.o.ext i.o) (W.o.ext i.o)
    obtain⟨k,j,n⟩:=xq3 k j n i.o
    have l:=xxt l i.o
    have a6:Hid (ElB ct av ((p.z*q.z+p.z*q.z) - (p.t*q.t*(dF+dF)))):=jh ⟨z,lz,I,H⟩
    have m:=jh (And.intro m.o d9.o)
    clear I G HZ Y i L H M N lz
    obtain⟨b9,R,a5,a4⟩:=F.o
    obtain⟨af,aj,bc,an⟩:=jq4 a5 a4 R (zaf R)
    clear a5 a4 R
    obtain⟨cx,ag,ar,au⟩:=E.o
    obtain⟨bt,bu,cu,bv⟩:=jq4 ar au ag (zaf ag)
    clear ar au ag
    go_wp2_with (first|(refine slb a7 af.o Tryd.underlying87 an.o ?_)|(refine slb bg bt.o Tryd.underlying87 bv.o ?_))
    refine(radd_f ct aj.o bu.o).mono ?_
    rintro e bb ⟨r,rfl,H,a⟩
    obtain⟨z,hz,lz⟩:=H.form
    subst hz
    obtain⟨s,D,E,F,W,a6⟩:=jq6 (s.o.ext a) (D.o.ext a) (E.o.ext a) (F.o.ext a) (W.o.ext a) (a6.o.ext a)
    obtain⟨k,j,n⟩:=xq3 k j n a
    have l:=xxt l a
    clear a
    obtain⟨HZ,Y,M⟩:=jq3 (Blk.made bb (ints .i64 (List.replicate 16 0)) 87) (Ext.alloc bb (.cells (ints .i64 (List.replicate 16 0)).toArray 87)) (zaf lz)
    have N:Hid ((ints .i64 z).length=(ints .i64 (List.replicate 16 0)).length):=jh (by rw[zaa,lz];rfl)
    go_upto_region 9 with(refine ssb bb.heap.size (ints .i64 z) HZ.o N.o M.o (zai _ _) ?_;intro c6 I G)
    have i:=jh (zab Y.o G (q101 _))
    obtain⟨ay,L⟩:=nxq bb.heap.size
    have d7:Hid (av<ay):=jh (by rw[L];exact a6.o.lt)
    rw[←L]at I⊢
    obtain⟨s,D,E,F,W,a6⟩:=jq6 (s.o.ext i.o) (D.o.ext i.o) (E.o.ext i.o) (F.o.ext i.o) (W.o.ext i.o) (a6.o.ext i.o)
    obtain⟨k,j,n⟩:=xq3 k j n i.o
    have l:=xxt l i.o
    have al:Hid (ElB c6 ay ((p.z*q.z+p.z*q.z)+(p.t*q.t*(dF+dF)))):=jh ⟨z,lz,I,H⟩
    have m:=jh (And.intro m.o d7.o)
    clear I G HZ Y i L H M N lz
    obtain⟨d4,ai,aw,b5⟩:=D.o
    obtain⟨bi,bp,cz,bq⟩:=jq4 aw b5 ai (zaf ai)
    clear aw b5 ai
    obtain⟨cw,ah,ax,aq⟩:=s.o
    obtain⟨bs,bj,d2,bl⟩:=jq4 ax aq ah (zaf ah)
    clear ax aq ah
    go_wp2_with (first|(refine slb bd bi.o Tryd.underlying87 bq.o ?_)|(refine slb b6 bs.o Tryd.underlying87 bl.o ?_))
    refine(radd_f c6 bp.o bj.o).mono ?_
    rintro e be ⟨r,rfl,H,a⟩
    obtain⟨z,hz,lz⟩:=H.form
    subst hz
    obtain⟨s,D,E,F,W,a6⟩:=jq6 (s.o.ext a) (D.o.ext a) (E.o.ext a) (F.o.ext a) (W.o.ext a) (a6.o.ext a)
    have al:=jh (al.o.ext a)
    obtain⟨k,j,n⟩:=xq3 k j n a
    have l:=xxt l a
    clear a
    obtain⟨HZ,Y,M⟩:=jq3 (Blk.made be (ints .i64 (List.replicate 16 0)) 87) (Ext.alloc be (.cells (ints .i64 (List.replicate 16 0)).toArray 87)) (zaf lz)
    have N:Hid ((ints .i64 z).length=(ints .i64 (List.replicate 16 0)).length):=jh (by rw[zaa,lz];rfl)
    go_upto_region 10 with(refine ssb be.heap.size (ints .i64 z) HZ.o N.o M.o (zai _ _) ?_;intro aa I G)
    have i:=jh (zab Y.o G (q101 _))
    obtain⟨bf,L⟩:=nxq be.heap.size
    have cv:Hid (ay<bf):=jh (by rw[L];exact al.o.lt)
    rw[←L]at I⊢
    obtain⟨s,D,E,F,W,a6⟩:=jq6 (s.o.ext i.o) (D.o.ext i.o) (E.o.ext i.o) (F.o.ext i.o) (W.o.ext i.o) (a6.o.ext i.o)
    have al:=jh (al.o.ext i.o)
    obtain⟨k,j,n⟩:=xq3 k j n i.o
    have l:=xxt l i.o
    have d0:Hid (ElB aa bf (((p.y+p.x)*(q.y+q.x))+((p.y - p.x)*(q.y - q.x)))):=jh ⟨z,lz,I,H⟩
    have m:=jh (And.intro m.o cv.o)
    clear I G HZ Y i L H M N lz
    obtain⟨c2,bn,cq,cs⟩:=W.o
    obtain⟨ci,c0,dd,cj⟩:=jq4 cq cs bn (zaf bn)
    clear cq cs bn
    obtain⟨cg,bh,cc,cp⟩:=a6.o
    obtain⟨bw,c7,db,ck⟩:=jq4 cc cp bh (zaf bh)
    clear cc cp bh
    obtain⟨c5,bk,cm,c8⟩:=al.o
    obtain⟨cn,bz,dc,c9⟩:=jq4 cm c8 bk (zaf bk)
    clear cm c8 bk
    obtain⟨cl,bm,co,ca⟩:=d0.o
    obtain⟨c1,cr,dh,ce⟩:=jq4 co ca bm (zaf bm)
    clear co ca bm
    have B0:Ext aa aa.drew:=Ext.drew _
    refine wp_region_held_drew (S:=fun w'=>Far (A+1+1) aa w') (by kernel_rfl) (zao B0) (fun b=>?_)
    refine tke 0 (.agg (ints .i64 c2).toArray) rfl (sld ao 0 (fun w h=>zas ci.o (by have:=m.o;omega) h) Tryd.underlying87 cj.o) b ?_
    simp only[nm]
    refine tke 1 (.agg (ints .i64 cg).toArray) rfl (sld av 0 (fun w h=>zas bw.o (by have:=m.o;omega) h) Tryd.underlying87 ck.o) b ?_
    simp only[nm]
    refine tke 3 (.agg (ints .i64 cl).toArray) rfl (sld bf 0 (fun w h=>zas c1.o (by have:=m.o;omega) h) Tryd.underlying87 ce.o) b ?_
    simp only[nm]
    refine tke 4 (.agg (ints .i64 c5).toArray) rfl (sld ay 0 (fun w h=>zas cn.o (by have:=m.o;omega) h) Tryd.underlying87 c9.o) b ?_
    simp only[nm]
    refine tke 6 (.agg (ints .i64 cg).toArray) rfl (sld av 0 (fun w h=>zas bw.o (by have:=m.o;omega) h) Tryd.underlying87 ck.o) b ?_
    simp only[nm]
    refine tke 7 (.agg (ints .i64 c5).toArray) rfl (sld ay 0 (fun w h=>zas cn.o (by have:=m.o;omega) h) Tryd.underlying87 c9.o) b ?_
    simp only[nm]
    refine tke 9 (.agg (ints .i64 c2).toArray) rfl (sld ao 0 (fun w h=>zas ci.o (by have:=m.o;omega) h) Tryd.underlying87 cj.o) b ?_
    simp only[nm]
    refine tke 10 (.agg (ints .i64 cl).toArray) rfl (sld bf 0 (fun w h=>zas c1.o (by have:=m.o;omega) h) Tryd.underlying87 ce.o) b ?_
    simp only[nm]
    refine rdy 2 rfl fun K c=>?_
    go_simp
    refine(zcm _ c0.o c7.o).mono ?_
    rintro e m1 ⟨v1,rfl,U,b1⟩
    obtain⟨z1,a2,l1⟩:=U.form
    subst a2
    have N1:Ext aa m1:=B0.trans b1
    refine c.o _ _ (zao N1) (fun b=>?_)
    clear c K
    try simp only[nm]
    refine rdy 5 rfl fun K c=>?_
    go_simp
    refine(zcm _ cr.o bz.o).mono ?_
    rintro e m2 ⟨v2,rfl,V,b2⟩
    obtain⟨z2,a3,l2⟩:=V.form
    subst a3
    have N2:Ext aa m2:=N1.trans b2
    refine c.o _ _ (zao N2) (fun b=>?_)
    clear c K
    try simp only[nm]
    refine rdy 8 rfl fun K c=>?_
    go_simp
    refine(zcm _ c7.o bz.o).mono ?_
    rintro e m3 ⟨v3,rfl,X,b3⟩
    obtain⟨C,a1,O⟩:=X.form
    subst a1
    have N3:Ext aa m3:=N2.trans b3
    refine c.o _ _ (zao N3) (fun b=>?_)
    clear c K
    try simp only[nm]
    refine rdy 11 rfl fun K c=>?_
    go_simp
    refine(zcm _ c0.o cr.o).mono ?_
    rintro e m4 ⟨v4,rfl,e4,b4⟩
    obtain⟨J,d5,l4⟩:=e4.form
    subst d5
    have N4:Ext aa m4:=N3.trans b4
    refine c.o _ _ (zao N4) (fun b=>?_)
    clear c K
    try simp only[nm]
    refine tke 12 (.agg (ptC z1 z2 C J).toArray) rfl (yi_build _ _ _ _ (build_pt (⟨⟨l1,U⟩,⟨l2,V⟩,⟨O,X⟩,⟨l4,e4⟩⟩:PtZ z1 z2 C J (p.sum q))) (by rfl) rfl (by simp[Act.eval])) b ?_
    simp only[nm]
    refine rdy 13 rfl fun K c=>?_
    refine zan (by rfl) ?_
    refine zaq _ _ _ rfl (A+1+1) (ptC z1 z2 C J) rfl rfl _ _ (zal n.o N4) (by rw[zbl ((⟨⟨l1,U⟩,⟨l2,V⟩,⟨O,X⟩,⟨l4,e4⟩⟩:PtZ z1 z2 C J (p.sum q))),zaa];rfl) (zcg ((⟨⟨l1,U⟩,⟨l2,V⟩,⟨O,X⟩,⟨l4,e4⟩⟩:PtZ z1 z2 C J (p.sum q)))) (zdp _ _ _ _) ?_
    intro m5 ae ac
    refine c.o _ _ (zbt N4 ac) (fun b=>?_)
    clear c K
    try simp only[nm]
    refine dne ?_
    go_wp2_with fail
    refine bodyPost_ret (result_pt rfl _ (A+1+1) _ _ rfl ae Tryd.underlying89 (zcg (⟨⟨l1,U⟩,⟨l2,V⟩,⟨O,X⟩,⟨l4,e4⟩⟩:PtZ z1 z2 C J (p.sum q)))) rfl ?_
    exact⟨_,rfl,⟨_,_,_,_,rfl,(⟨⟨l1,U⟩,⟨l2,V⟩,⟨O,X⟩,⟨l4,e4⟩⟩:PtZ z1 z2 C J (p.sum q))⟩,zab (l.o.trans N4) ac (by have:=m.o;omega)⟩
end Go.Proofs.YtgnfdonbholcdaaDoor


