/- Lemmas. -/
import Derived.Test.YtgnfdonbholcdaaDoorQz07
namespace Go.Proofs.YtgnfdonbholcdaaDoor
set_option linter.unusedVariables false
set_option maxRecDepth 100000
set_option maxHeartbeats 32000000
set_option linter.unusedSimpArgs false
open Go.RowKit
def byl(l:List UInt8):List Int:=l.map fun b=>(b.toNat:Int)
theorem byl_getD(l:List UInt8)(i:Nat):(byl l).getD i 0=((l.getD i 0).toNat:Int):=by
 unfold byl
 simp only[List.getD,List.getElem?_map]
 cases l[i]? <;>simp
theorem byl_range(l:List UInt8)(i:Nat):0≤(byl l).getD i 0∧(byl l).getD i 0≤255:=by
 rw[byl_getD]
 have:=UInt8.toNat_lt (l.getD i 0)
 omega
def tAll(x y:List Int):Nat→List Int
 |0=>List.replicate 64 0
 |i+1=>mRow (tAll x y i) x y i 32
theorem tAll_length(x y:List Int):∀i,(tAll x y i).length=64
 |0=>by simp[tAll]
 |i+1=>by rw[tAll,mRow_length,tAll_length x y i]
theorem tRow_range {p x y:List Int} {i:Nat} {C:Int}(f:i<32)(g:p.length=64)(b:∀k,0≤p.getD k 0∧p.getD k 0≤C)(a:∀j,0≤x.getD j 0∧x.getD j 0≤255)(c:∀j,0≤y.getD j 0∧y.getD j 0≤255):
  ∀j,j≤32→∀k,0≤(mRow p x y i j).getD k 0∧(mRow p x y i j).getD k 0≤C+65025
 |0,_,k=>by have:=b k;simp only[mRow];omega
 |j+1,hj,k=>by
  have d:=tRow_range f g b a c j (by omega) k
  have h:=mul_range (a i).1 (a i).2 (c j).1 (c j).2
  simp only[mRow]
  by_cases e:i+j=k
  ·subst e
   rw[zaj (by rw[mRow_length];omega),mRow_far p x y i j _ (by omega)]
   have:=b (i+j)
   omega
  rw[zae e]
  exact d
theorem tAll_range {x y:List Int}(a:∀j,0≤x.getD j 0∧x.getD j 0≤255)(b:∀j,0≤y.getD j 0∧y.getD j 0≤255):∀i,i≤32→∀k,0≤(tAll x y i).getD k 0∧(tAll x y i).getD k 0≤(i:Int)*65025
 |0,_,k=>by
  simp only[tAll,List.getD,List.getElem?_replicate]
  split<;>simp
 |i+1,hi,k=>by
  have:=tRow_range (i:=i) (C:=(i:Int)*65025) (by omega) (tAll_length x y i) (tAll_range a b i (by omega)) a b 32 (by omega) k
  simp only[tAll]
  omega
theorem tRow_val(p x y:List Int)(i:Nat)(c:i<32)(b:p.length=64)(d:y.length=32):∀j,j≤32→gV 256 (mRow p x y i j)=gV 256 p+x.getD i 0*256^i*gV 256 (y.take j)
 |0,_=>by simp[mRow,gV]
 |j+1,hj=>by
  simp only[mRow]
  rw[gV_set _ _ _ _ (by rw[mRow_length];omega),tRow_val p x y i c b d j (by omega),zby _ y j (by omega),Int.pow_add]
  generalize (mRow p x y i j).getD (i+j) 0=a
  generalize (256:Int)^i=X
  generalize (256:Int)^j=Y
  generalize gV 256 (y.take j)=T
  generalize y.getD j 0=t
  generalize x.getD i 0=u
  grind
theorem tAll_val(x y:List Int)(b:x.length=32)(a:y.length=32):∀i,i≤32→gV 256 (tAll x y i)=gV 256 (x.take i)*gV 256 y
 |0,_=>by simp[tAll,gV_zeros,gV]
 |i+1,hi=>by
  simp only[tAll]
  have e:y.take 32=y:=q105 (by omega)
  rw[tRow_val _ _ _ _ (by omega) (tAll_length x y i) a 32 (by omega),tAll_val x y b a i (by omega),zby _ x i (by omega),e]
  generalize (256:Int)^i=X
  generalize gV 256 y=T
  generalize gV 256 (x.take i)=S
  generalize x.getD i 0=u
  grind
def cM(t:List Int)(i:Nat):Int:=gV 256 (t.take i) / 256^i
theorem cM_zero(t:List Int):cM t 0=0:=by simp[cM,gV]
theorem cM_step(t:List Int)(i:Nat)(a:i<t.length):(cM t i+t.getD i 0)%256=gV 256 t / 256^i%256∧(cM t i+t.getD i 0) / 256=cM t (i+1):=by
 have d:(0:Int)<256^i:=Int.pow_pos (by omega)
 have b:gV 256 t=gV 256 (t.take i)+256^i*(t.getD i 0+256*gV 256 (t.drop (i+1))):=by
  have h:=gV_cut 256 t i (by omega)
  rw[q139 a,gV]at h
  rw[getD_eq a]
  exact h
 unfold cM
 refine⟨?_,?_⟩
 ·rw[b,Int.add_mul_ediv_left _ _ (by omega)]
  generalize gV 256 (t.take i) / 256^i=c
  omega
 rw[zby _ t i a,q114,←Int.ediv_ediv_of_nonneg (by omega),Int.mul_comm (t.getD i 0),Int.add_mul_ediv_left _ _ (by omega)]
theorem cM_range {t:List Int} {M:Int}(a:∀k,0≤t.getD k 0∧t.getD k 0≤M):∀i,i≤t.length→0≤cM t i∧cM t i≤M
 |0,_=>by rw[cM_zero];have:=a 0;omega
 |i+1,hi=>by
  have b:=cM_range a i (by omega)
  have h:=(cM_step t i (by omega)).2
  have:=a i
  omega
theorem prod_val(l m:List UInt8)(a:l.length=32)(b:m.length=32):gV 256 (tAll (byl l) (byl m) 32)=((leN l*leN m:Nat):Int):=by
 have h1:(byl l).length=32:=by simp[byl,a]
 have h2:(byl m).length=32:=by simp[byl,b]
 have e:(byl l).take 32=byl l:=q105 (by omega)
 rw[tAll_val _ _ h1 h2 32 (by omega),e,Int.natCast_mul]
 unfold byl
 rw[gV_bytes,gV_bytes]
theorem prod_byte(x k:Nat):((x:Int) / 256^k%256)=((x / 256^k%256:Nat):Int):=by
 have e:((256:Int)^k)=((256^k:Nat):Int):=by simp
 rw[e,←Int.natCast_ediv]
 omega
theorem u8_oneV:(Tryd.prog.info? 5).map (·.size)=some 1:=by kernel_rfl
theorem rwide_v(v:Value)(a:List (List UInt8))(l:List UInt8)(w:World)(b:RowB w v a)(f:a.flatten=l)(h:l.length≤1099511627776)(g:GlobK5 w)(c:GlobO w):Calls Tryd.prog 50 #[v] w fun e d=>e=.returned (.agg ((wideB l).map bval).toArray)∧Below w.heap.size w d:=by
 subst f
 exact rwide_f v a w b h g c
theorem u8_one:(Tryd.prog.info? 5).map (·.size)=some 1:=by kernel_rfl
theorem rparts_f(s:List UInt8)(w:World)(hs:s.length=32)(b:GlobK5 w):Calls Tryd.prog 39 #[.agg (s.map bval).toArray] w fun e r=>∃x,e=.returned (.tuple #[.agg ((secA s).map bval).toArray,x])∧Row1 r x ((secH s).map bval)∧Below w.heap.size w r:=by
 obtain⟨i0,R,W,a6,a7⟩:=info_parts Tryd.info5
 obtain⟨af,ab,aa,ae,a2,HK⟩:=jq6 R W a6 a7 hs b
 have HB:=jh (boxes2 w (s.map bval) (ints .u8 (List.replicate 32 0)) 23 23)
 clear R W a6 a7 hs b
 go_enter Tryd.func39,Tryd.ntmps39
 go_upto_region 1 with(fail)
 obtain⟨V,U,a⟩:=HB.o
 change Code.wp _ _ _ _ ((w.alloc (.cells (s.map bval).toArray 23)).alloc (.cells (ints .u8 (List.replicate 32 0)).toArray 23))
 generalize (w.alloc (.cells (s.map bval).toArray 23)).alloc (.cells (ints .u8 (List.replicate 32 0)).toArray 23)=Z at*
 obtain⟨A,Y⟩:=nxq w.heap.size
 have a9:Hid (w.heap.size≤A):=jh (by omega)
 rw[←Y]at V U⊢
 have a1:=jh (zbv (n:=32) V (by rw[q100,a2.o]) (by unfold maxLen;omega))
 have c:=jh U
 have a:Hid (Ext w Z):=jh a
 clear Y HB V U
 go_wp2_with fail
 refine(rShb_any _ s Z a1.o (by rw[a2.o];omega) (HK.o.ext a.o)).mono ?_
 rintro e B ⟨rfl,X⟩
 have c:=xxb c X
 have a:=xxt a X
 clear X a1
 have f:=jh (zdg s)
 have a4:Hid (secA s=clampB ((sha512 s).take 32)):=jh rfl
 have ac:Hid (secH s=(sha512 s).drop 32):=jh rfl
 generalize sha512 s=h at*
 obtain⟨HZ,a3⟩:=jq2 (Blk.made B (ints .u8 (List.replicate 64 0)) 26) (Ext.alloc B (.cells (ints .u8 (List.replicate 64 0)).toArray 26))
 have HL:Hid ((h.map bval).length=(ints .u8 (List.replicate 64 0)).length):=jh (by rw[q100,f.o,zaa];rfl)
 go_upto_region 2 with(refine ssb B.heap.size (h.map bval) HZ.o HL.o (zeb f.o) (zac _) ?_;intro p F C)
 have H:=jh (zab a3.o C (q101 _))
 obtain⟨S,I⟩:=nxq B.heap.size
 have a8:Hid (A+1<S):=jh (by rw[I];exact c.o.lt)
 have c:=xxb c H.o
 have a:=xxt a H.o
 rw[←I]at F⊢
 have d:=jh F
 clear F C HZ a3 H HL I
 have Q:=Ext.alloc p (.cells (ints .u8 (List.replicate 32 0)).toArray 23)
 obtain⟨O,M⟩:=nxq p.heap.size
 have t:Hid (A+1<O∧S<O∧w.heap.size≤O):=jh (by have:=d.o.lt;have:=a.o.size;have:=a8.o;omega)
 have m:Hid (Blk (p.alloc (.cells (ints .u8 (List.replicate 32 0)).toArray 23)) O ((List.replicate 32 (0:UInt8)).map bval) 23):=jh (by rw[M];exact Blk.made p (ints .u8 (List.replicate 32 0)) 23)
 obtain⟨c,d⟩:=xq2 c d Q
 have a:=xxt a Q
 clear Q
 go_upto_region 3 with(fail)
 change Code.wp _ _ _ _ (p.alloc (.cells (ints .u8 (List.replicate 32 0)).toArray 23))
 rw[←M]
 clear M
 generalize p.alloc (.cells (ints .u8 (List.replicate 32 0)).toArray 23)=w3 at*
 refine swf 2 1 2 ?_
 refine zcs (.slice (some ⟨O,0,none⟩) 32 32) (by rfl) (fun w hw=>by go_simp) ?_
 simp only[nm]
 refine zcs (.slice (some ⟨S,0,none⟩) 32 64) (by rfl) (fun w hw=>by go_simp) ?_
 simp only[nm]
 refine det_nil (end_store (k:=2) rfl (by kernel_rfl) (by kernel_rfl) (by kernel_rfl) rfl (fun w4 G=>?_))
 obtain⟨c,d,m⟩:=xq3 c d m G
 have a:=xxt a G
 clear G
 have g:Hid ((h.take 32).length=32):=jh (by rw[q106,f.o];rfl)
 refine zcf _ _ 24 24 rfl 5 Tryd.underlying24 u8_one _ _ _ _ _ _ rfl rfl O 0 _ _ m.o ((h.take 32).map bval) (by rw[q100,g.o];rfl) (fun _=>⟨rfl,⟨S,0,none⟩,rfl,fun j v L=>?_⟩) (by rw[q100,g.o];simp) (zac _) ?_
 ·have ad:j<32:=by
   rcases q108 j 32 with h'|h'
   ·exact h'
   rw[List.getElem?_eq_none (by rw[q100,g.o];omega)]at L;cases L
  rw[WideShapes.add_plain,q111,d.o.cell,←L,List.getElem?_map,List.getElem?_map,List.getElem?_take,if_pos ad]
 intro q E z
 have a5:splice ((List.replicate 32 (0:UInt8)).map bval) 0 ((h.take 32).map bval)=(h.take 32).map bval:=by
  rw[splice_bytes,g.o]
  simp
 rw[a5]at E
 have c:=jh (c.o.grown z (by have:=t.o;simp;omega))
 have d:=jh (d.o.grown z (by have:=t.o;simp;omega))
 obtain⟨a,m⟩:=jq2 (zab a.o z t.o.2.2) E
 clear E z a5
 generalize goInt ((h.take 32).map bval).length=g1
 simp only[nm]
 have y:=jh (zcp g.o)
 rw[←a4.o]at y
 have HC:Hid (∀w,Calls Tryd.prog 54 #[.agg ((h.take 32).map bval).toArray] w fun e r=>e=.returned (.agg ((secA s).map bval).toArray)∧Below w.heap.size w r):=jh (fun w=>by rw[a4.o];exact rclamped_any _ w g.o)
 have ag:Hid (Row1 q (.slice (some ⟨S,32,none⟩) 32 32) ((h.drop 32).map bval)):=jh (by
  have h1:=row_cut Tryd.underlying24 Tryd.sizeOf5 (zbv (n:=64) d.o (by rw[q100,f.o]) (by unfold maxLen;omega)) 32 (by rw[q100,f.o];omega)
  refine⟨some ⟨S,32,none⟩,32,by rw[q100,q113,f.o],by rw[q100,q113,f.o];omega,by unfold maxLen;omega,(fun e=>by cases e),fun _=>⟨S,32,rfl,d.o.lt,fun i R=>?_⟩⟩
  rw[d.o.cell,List.getElem?_map,List.getElem?_map,List.getElem?_drop])
 have a0:Hid ((h.drop 32).length=32):=jh (by rw[q113,f.o])
 have HO:Hid (A+1<O):=jh t.o.1
 generalize h.take 32=ht at*
 generalize h.drop 32=hd at*
 go_upto_region 4 with(fail)
 have rs:=ag.o
 have B0:Ext q q.drew:=Ext.drew _
 refine wp_region_held_drew (S:=fun r=>Far (A+1) q r) (by kernel_rfl) (zao B0) (fun l=>?_)
 have rs:=rs.below (Ext.drew _)
 refine tke 0 (.agg ((ht).map bval).toArray) rfl (sld O 0 (fun w h=>zas m.o (by have:=HO.o;omega) h) Tryd.underlying23 (zag g.o)) l ?_
 simp only[nm]
 refine tke 2 (.slice (some ⟨S,32,none⟩) 32 32) rfl (zcd _ _ _ _ (.pointer (some ⟨S,0,none⟩)) (.slice (some ⟨S,32,none⟩) 32 32) (some (.int .i64 32)) none (by rfl) rfl rfl rfl rfl (fun w=>by go_simp)) l ?_
 simp only[nm]
 refine rdy 1 rfl fun K b=>?_
 go_simp
 refine(HC.o _).mono ?_
 rintro e J ⟨rfl,b1⟩
 have rs:=rs.below b1
 have N:Ext q J:=B0.trans b1
 refine b.o _ _ (zao N) (fun l=>?_)
 clear b K
 try simp only[nm]
 refine rdy 3 rfl fun K b=>?_
 refine zan (by rfl) ?_
 refine zbe _ _ 24 rfl (J).heap.size 5 i0 (.int .u8 0) 1 Tryd.underlying24 af.o ab.o aa.o ae.o rfl (.slice none 0 0) 0 [] rfl (World.ownsRow_nil _ _ _ _) rfl rs (zac _) (by rw[q100,a0.o];unfold maxLen;omega) (by rw[q100,a0.o];omega) (q101 _) ?_
 intro v2 T P C
 have b2:Ext J T:=zay (Ext.refl _) (World.ownsRow_nil _ _ 5 _) (q101 _) C
 have rs:=rs.below b2
 rw[q116]at P
 have r2:Row1 T v2 ((hd).map bval):=Row1.of_own P
 have u:Ext q T:=N.trans b2
 have own_far:Hid (v2.ownBlock≠some (A+1)):=jh (Row1.own_ne P (by have:=t.o;have:=m.o.lt;have:=N.size;omega))
 refine b.o _ _ (zao u) (fun l=>?_)
 clear b K
 try simp only[nm]
 refine rdy 4 rfl fun K b=>?_
 refine zan (by rfl) ?_
 refine zaq _ _ _ rfl (A+1) ((secA s).map bval) rfl rfl _ _ (zal c.o u) (by rw[q100,y.o,zaa];rfl) (zag (y.o)) (zac _) ?_
 intro m3 ah D
 refine b.o _ _ (zbt u D) (fun l=>?_)
 clear b K
 try simp only[nm]
 refine rdy 5 rfl fun K b=>?_
 go_simp
 refine b.o _ _ (zbt u D) (fun l=>?_)
 clear b K
 try simp only[nm]
 refine dne ?_
 go_wp2_with fail
 refine bodyPost_ret (zaw rfl _ (A+1) _ _ _ rfl ah Tryd.underlying23 rfl (zag y.o)) rfl ?_
 refine⟨_,rfl,?_,zab (a.o.trans u) D (by have:=a9.o;omega)⟩
 rw[ac.o]
 exact r2.grown D (fun k hk e=>by cases hk;exact own_far.o e)
theorem rpublic_f(s:List UInt8)(w:World)(L:s.length=32)(b:GlobK5 w)(D:GlobD w)(O:GlobX w)(N:GlobY w):Calls Tryd.prog 22 #[.agg (s.map bval).toArray] w fun e u=>e=.returned (.agg ((edPub s).map bval).toArray)∧Below w.heap.size w u:=by
 obtain⟨G,U,a0,X,a3,H⟩:=jq6 L b D O N (boxes2 w (s.map bval) (ints .u8 (List.replicate 32 0)) 23 23)
 clear L b D O N
 go_enter Tryd.func22,Tryd.ntmps22
 go_upto_region 1 with(fail)
 obtain⟨t,r,c⟩:=H.o
 change Code.wp _ _ _ _ ((w.alloc (.cells (s.map bval).toArray 23)).alloc (.cells (ints .u8 (List.replicate 32 0)).toArray 23))
 generalize (w.alloc (.cells (s.map bval).toArray 23)).alloc (.cells (ints .u8 (List.replicate 32 0)).toArray 23)=C at*
 obtain⟨A,B⟩:=nxq w.heap.size
 have W:Hid (w.heap.size≤A):=jh (by omega)
 rw[←B]at t r⊢
 obtain⟨z,d⟩:=jq2 t r
 have c:Hid (Ext w C):=jh c
 clear B H t r
 go_wp2_with (refine slb A z.o Tryd.underlying23 (zag G.o) ?_)
 refine(rparts_f s C G.o (U.o.ext c.o)).mono ?_
 rintro e j ⟨x,rfl,Q,y⟩
 have d:=xxb d y
 have c:=xxt c y
 clear Q y z
 have f:Hid ((secA s).length=32):=jh (by unfold secA;exact zcp (by rw[q106,zdg];rfl))
 have a6:Hid (edPub s=encB (pmul (leN (secA s)) bP)):=jh rfl
 generalize secA s=a at*
 obtain⟨F,I⟩:=jq2 (Blk.made j (ints .u8 (List.replicate 32 0)) 23) (Ext.alloc j (.cells (ints .u8 (List.replicate 32 0)).toArray 23))
 have E:Hid ((a.map bval).length=(ints .u8 (List.replicate 32 0)).length):=jh (by rw[q100,f.o,zaa];rfl)
 go_upto_region 2 with(refine ssb j.heap.size (a.map bval) F.o E.o (zag f.o) (zac _) ?_;intro wc l J)
 have v:=jh (zab I.o J (q101 _))
 obtain⟨T,q⟩:=nxq j.heap.size
 have HO:Hid (A+1<T):=jh (by rw[q];exact d.o.lt)
 have d:=xxb d v.o
 have c:=xxt c v.o
 rw[←q]at l⊢
 have Y:=jh l
 clear l J F I v E q
 have R:=jh (erun_full (Pt.es_is bP) (m:=256) (n:=leN a) (by have:=leN_lt a;rw[f.o]at this;exact Nat.lt_of_lt_of_eq this (by decide+kernel)))
 have i:Ext wc wc.drew:=Ext.drew _
 refine wp_region_held_drew (S:=fun u=>Far (A+1) wc u) (by kernel_rfl) (zao i) (fun g=>?_)
 refine tke 1 (.agg ((a).map bval).toArray) rfl (sld T 0 (fun w h=>zas Y.o (by have:=HO.o;omega) h) Tryd.underlying23 (zag f.o)) g ?_
 simp only[nm]
 refine rdy 0 rfl fun K b=>?_
 go_simp
 refine(rbase_f _ (X.o.ext (c.o.trans i)) (a3.o.ext (c.o.trans i))).mono ?_
 rintro e V ⟨v1,rfl,e1,b1⟩
 obtain⟨a1,c1,d1,g1,a4,z1⟩:=e1
 subst a4
 have p:Ext wc V:=i.trans b1
 refine b.o _ _ (zao p) (fun g=>?_)
 clear b K
 try simp only[nm]
 refine rdy 2 rfl fun K b=>?_
 go_simp
 refine(rmany_f _ bP.es a _ (⟨_,_,_,_,rfl,z1⟩:PtV _ (bP.es)) f.o (a0.o.ext (c.o.trans p))).mono ?_
 rintro e m2 ⟨v2,rfl,e2,b2⟩
 obtain⟨a2,c2,d2,g2,a5,z2⟩:=e2
 subst a5
 have P:Ext wc m2:=p.trans b2
 refine b.o _ _ (zao P) (fun g=>?_)
 clear b K
 try simp only[nm]
 refine rdy 3 rfl fun K b=>?_
 go_simp
 refine(rwritten_f _ _ (pmul (leN a) bP) _ (⟨_,_,_,_,rfl,z2⟩:PtV _ (erun 256 bP.es (leN a) 256)) R.o).mono ?_
 rintro e m3 ⟨rfl,b3⟩
 have k:Ext wc m3:=P.trans b3
 refine b.o _ _ (zao k) (fun g=>?_)
 clear b K
 try simp only[nm]
 refine rdy 4 rfl fun K b=>?_
 refine zan (by rfl) ?_
 refine zaq _ _ _ rfl (A+1) ((encB (pmul (leN a) bP)).map bval) rfl rfl _ _ (zal d.o k) (by rw[q100,encB_length,zaa];rfl) (zag ((encB_length _))) (zac _) ?_
 intro m4 Z M
 refine b.o _ _ (zbt k M) (fun g=>?_)
 clear b K
 try simp only[nm]
 refine dne ?_
 go_wp2_with fail
 refine bodyPost_ret (zat rfl _ (A+1) _ _ _ _ rfl Z Tryd.underlying23 (zag (encB_length _))) rfl ?_
 exact⟨by rw[a6.o],zab (c.o.trans k) M (by have:=W.o;omega)⟩
theorem bytesN_zero:∀n,bytesN n 0=List.replicate n 0
 |0=>rfl
 |n+1=>by
  simp only[bytesN,Nat.zero_div,bytesN_zero n,List.replicate_succ]
  rfl
theorem fill_tail(x k n:Nat)(h:x<256^k):fill (k+n) (bytesN (k+n) x) k=bytesN (k+n) x:=by
 have a:=bytesN_append k n x
 rw[q133 h,bytesN_zero]at a
 unfold fill
 rw[a,List.take_append_of_le_length (by rw[zap];exact q101 _),q105 (by rw[zap];exact q101 _),Nat.add_sub_cancel_left]
theorem cA_le(a b i:Nat):scl_cA a b i≤1:=by
 have c:0<256^i:=Nat.pow_pos (by omega)
 have h1:=Nat.mod_lt a c
 have h2:=Nat.mod_lt b c
 unfold scl_cA
 generalize 256^i=P at*
 have:(a%P+b%P) / P<2:=by rw[Nat.div_lt_iff_lt_mul c];omega
 omega
theorem rred_blk(x:Nat)(b:x<256^64) {w:World} {c:Nat} {t:TypeId}(h:Blk w c ((bytesN 64 x).map bval) t)(d:GlobO w):
  Calls Tryd.prog 71 #[.slice (some ⟨c,0,none⟩) 64 64] w fun e a=>e=.returned (.agg ((nq (x:Nat)).map bval).toArray)∧Below w.heap.size w a:=by
 have:=rReduce_num _ (bytesN 64 x) w (h.row (by rw[q100,zap]) (by unfold maxLen;omega)) d
 rwa [q105 (by rw[zap];exact q101 _),zdw,q112 b]at this
theorem rAddQ_num(l m:List UInt8)(w:World)(R:l.length=32)(B:m.length=32)(F:GlobO w):
  Calls Tryd.prog 51 #[.agg (l.map bval).toArray,.agg (m.map bval).toArray] w fun e w'=>e=.returned (.agg ((nq ((leN l:Nat)+(leN m:Nat))).map bval).toArray)∧Below w.heap.size w w':=by
 obtain⟨HL,HM,HG⟩:=jq3 R B F
 have N:=leN_lt l
 have Q:=leN_lt m
 rw[R]at N
 rw[B]at Q
 have G:leN l+leN m<256^33:=by
  have:(256:Nat)^32+256^32≤256^33:=by decide+kernel
  omega
 have W:leN l+leN m<256^64:=q109 G (by decide+kernel)
 obtain⟨a3,aa⟩:=jq2 (cA_zero (leN l) (leN m)) (cA_step (leN l) (leN m))
 have a8:Hid (leN l / 256^32%256=0):=jh (by rw[q133 N])
 have a2:Hid (leN m / 256^32%256=0):=jh (by rw[q133 Q])
 obtain⟨Z,E⟩:=jq2 (fill_tail (leN l+leN m) 33 31 G) (zap 64 (leN l+leN m))
 have Y:=jh (fun k p=>zcz 64 (leN l+leN m) k p)
 have I:=jh (fun (w:World) (c:Nat) (t:TypeId) (h:Blk w c ((bytesN 64 (leN l+leN m)).map bval) t) F=>rred_blk (leN l+leN m) W h F)
 have ad:=jh (fun k p=>leN_byte l k p)
 have a5:=jh (fun k p=>leN_byte m k p)
 have ab:Hid (nq ((leN l+leN m:Nat):Int)=nq ((leN l:Nat)+(leN m:Nat))):=jh (by rw[Int.natCast_add])
 have HB:=jh (boxes4 w (l.map bval) (m.map bval) (ints .u8 (List.replicate 32 0)) (ints .u8 (List.replicate 64 0)) 23 23 23 25)
 clear R B F N Q G W
 go_enter Tryd.func51,Tryd.ntmps51
 go_wp2_with fail
 change Code.wp _ _ _ _ ((((w.alloc (.cells (l.map bval).toArray 23)).alloc (.cells (m.map bval).toArray 23)).alloc (.cells (ints .u8 (List.replicate 32 0)).toArray 23)).alloc (.cells (ints .u8 (List.replicate 64 0)).toArray 25))
 generalize (((w.alloc (.cells (l.map bval).toArray 23)).alloc (.cells (m.map bval).toArray 23)).alloc (.cells (ints .u8 (List.replicate 32 0)).toArray 23)).alloc (.cells (ints .u8 (List.replicate 64 0)).toArray 25)=w0 at*
 obtain⟨h1,h2,M,P,hE⟩:=HB.o
 obtain⟨A,U⟩:=nxq w.heap.size
 rw[←U]at h1 h2 M P⊢
 have ah:w.heap.size≤A:=by omega
 obtain⟨r,q,b,f⟩:=jq4 h1 h2 M P
 have a:Hid (Ext w w0):=jh hE
 clear h1 h2 M P hE HB U
 obtain⟨S,V⟩:=nxq (bytesN 64 (leN l+leN m))
 rw[←V]at Z E Y I
 clear V
 go_loopw [6,7] (fun cv K wr=>∃(k:Nat),k≤33∧K=.int .i64 (k:Int)∧cv=.int .i64 ((scl_cA (leN l) (leN m) k:Nat):Int)∧Blk wr A (l.map bval) 23∧Blk wr (A+1) (m.map bval) 23∧Blk wr (A+1+1) (ints .u8 (List.replicate 32 0)) 23∧Blk wr (A+1+1+1) ((fill 64 S k).map bval) 25∧Ext w wr) (fun _ K _=>33 - (intOf K).toNat)
 case atStart=>exact⟨0,by omega,rfl,by rw[a3.o];rfl,r.o,q.o,b.o,by rw[fill_start];exact f.o,a.o⟩
 case round=>
  clear r q b f a
  obtain⟨k,p,rfl,rfl,n,j,s,d,i⟩:=hrel
  have k0:(0:Int)≤(k:Int):=Int.natCast_nonneg _
  have g:=aa.o k
  have a6:=cA_le (leN l) (leN m) k
  by_cases af:k<33
  ·have k1:(k:Int)<33:=by omega
   have ag:(k:Int)<64:=by omega
   have a0:((fill 64 S k).map bval).length=64:=by rw[q100,zdr E.o (by omega)]
   have T:=d.cell k
   rw[List.getElem?_eq_getElem (by omega)]at T
   have f4:=d.free k
   generalize ((fill 64 S k).map bval)[k]'(by omega)=c4 at T
   have C:=Y.o k (by omega)
   by_cases D:k<32
   ·have k2:(k:Int)<32:=by omega
    have e1:=n.cell k
    rw[zbf (by rw[HL.o];exact D),ad.o k (by rw[HL.o];exact D)]at e1
    have e2:=j.cell k
    rw[zbf (by rw[HM.o];exact D),a5.o k (by rw[HM.o];exact D)]at e2
    have p1:leN l / 256^k%256<256:=Nat.mod_lt _ (by omega)
    have p2:leN m / 256^k%256<256:=Nat.mod_lt _ (by omega)
    have L:=jh g.2
    have u:=g.1
    rw[←C]at u
    generalize leN l / 256^k%256=x at*
    generalize leN m / 256^k%256=y at*
    generalize scl_cA (leN l) (leN m) k=c at*
    have O:=jh (zcv (k:=k) (z:=((c:Int)+(x:Int)+(y:Int))%256) E.o (by omega) (by omega))
    have B:=zcl ((c:Int)+(x:Int)+(y:Int)) (by omega) (by omega)
    have J:Hid (((c:Int)+(x:Int)+(y:Int)) / 256=((scl_cA (leN l) (leN m) (k+1):Nat):Int)):=jh (by have:=L.o;omega)
    obtain⟨r,q,b,f,a⟩:=jq5 n j s d i
    clear n j s d i a0 C u g
    go_wp2_with fail
    go_region
    go_wp2_with fail
    go_roundw
    case rel=>
     refine⟨k+1,by omega,by go_num,by rw[J.o],(r.o.drewN 1).far (by simp<;>omega) _,(q.o.drewN 1).far (by simp<;>omega) _,(b.o.drewN 1).far (by simp<;>omega) _,?_,Below.setCell (a.o.trans (Ext.drew _)) (by simp<;>omega) _⟩
     rw[←O.o]
     exact(f.o.drewN 1).set k _
    case measure=>simp[intOf];omega
   have a9:k=32:=by omega
   subst a9
   rw[a8.o,a2.o]at g
   have L:=jh g.2
   have u:=g.1
   rw[←C]at u
   generalize scl_cA (leN l) (leN m) 32=c at*
   have O:=jh (zcv (k:=32) (z:=(c:Int)%256) E.o (by omega) (by omega))
   have B:=zcl (c:Int) (by omega) (by omega)
   have J:Hid ((c:Int) / 256=((scl_cA (leN l) (leN m) (32+1):Nat):Int)):=jh (by have:=L.o;omega)
   obtain⟨r,q,b,f,a⟩:=jq5 n j s d i
   clear n j s d i a0 C u g
   go_wp2_with fail
   go_roundw
   case rel=>
    refine⟨32+1,by omega,by go_num,by rw[J.o],r.o.far (by simp<;>omega) _,q.o.far (by simp<;>omega) _,b.o.far (by simp<;>omega) _,?_,Below.setCell a.o (by simp<;>omega) _⟩
    rw[←O.o]
    exact f.o.set 32 _
   case measure=>simp[intOf]
  have ac:k=33:=by omega
  subst ac
  have a1:fill 64 S 33=S:=Z.o
  rw[a1]at d
  obtain⟨b,f,a⟩:=jq3 s d i
  clear n j s d i a1 g a6
  go_wp2_with fail
  refine(I.o _ _ _ f.o (HG.o.ext a.o)).mono ?_
  rintro e w5 ⟨rfl,H⟩
  have b:=xxb b H
  have a:=xxt a H
  have X:Hid ((Tryd.prog.info? 23).map (·.size)=some ((nq ((leN l+leN m:Nat):Int)).map bval).length):=jh (zag (nq_length _))
  have ae:Hid (((nq ((leN l+leN m:Nat):Int)).map bval).length=(ints .u8 (List.replicate 32 0)).length):=jh (by rw[q100,nq_length];rfl)
  clear H I
  go_wp2_with (refine zah rfl _ _ _ rfl (A+1+1) _ rfl rfl _ _ b.o ae.o X.o (zac _) ?_;intro w7 a4 a7)
  exact bodyPost_ret (v:=.agg ((nq ((leN l+leN m:Nat):Int)).map bval).toArray) (result_row (by rfl) _ (A+1+1) _ _ _ (by rfl) a4 Tryd.underlying23 rfl X.o) rfl ⟨by rw[ab.o],zab a.o a7 (by omega)⟩
theorem rMulQ_num(l m:List UInt8)(w:World)(O:l.length=32)(H:m.length=32)(J:GlobO w):
  Calls Tryd.prog 52 #[.agg (l.map bval).toArray,.agg (m.map bval).toArray] w fun e w'=>e=.returned (.agg ((nq ((leN l:Nat)*(leN m:Nat))).map bval).toArray)∧Below w.heap.size w w':=by
 obtain⟨HL,HM,HG⟩:=jq3 O H J
 have W:=leN_lt l
 have hb:=leN_lt m
 rw[O]at W
 rw[H]at hb
 have a8:leN l*leN m<256^64:=by
  have e:(256:Nat)^64=256^32*256^32:=by decide+kernel
  rw[e]
  exact Nat.mul_lt_mul'' W hb
 obtain⟨ab,N⟩:=jq2 (prod_val l m O H) (zap 64 (leN l*leN m))
 have a7:=jh (fun k E=>zcz 64 (leN l*leN m) k E)
 have ah:=jh (fun k=>prod_byte (leN l*leN m) k)
 have X:=jh (fun (w:World) (c:Nat) (t:TypeId) (h:Blk w c ((bytesN 64 (leN l*leN m)).map bval) t) J=>rred_blk (leN l*leN m) a8 h J)
 have az:Hid (nq ((leN l*leN m:Nat):Int)=nq ((leN l:Nat)*(leN m:Nat))):=jh (by rw[Int.natCast_mul])
 obtain⟨I,K⟩:=jq2 (byl_range l) (byl_range m)
 have am:Hid (∀i,((l.getD i 0).toNat:Int)=(byl l).getD i 0):=jh (fun i=>(byl_getD l i).symm)
 have ac:Hid (∀i,((m.getD i 0).toNat:Int)=(byl m).getD i 0):=jh (fun i=>(byl_getD m i).symm)
 have HB:=jh (boxes4 w (l.map bval) (m.map bval) (ints .u8 (List.replicate 32 0)) (ints .i64 (List.replicate 64 0)) 23 23 23 120)
 clear O H J W hb a8
 go_enter Tryd.func52,Tryd.ntmps52
 go_wp2_with fail
 change Code.wp _ _ _ _ ((((w.alloc (.cells (l.map bval).toArray 23)).alloc (.cells (m.map bval).toArray 23)).alloc (.cells (ints .u8 (List.replicate 32 0)).toArray 23)).alloc (.cells (ints .i64 (List.replicate 64 0)).toArray 120))
 generalize (((w.alloc (.cells (l.map bval).toArray 23)).alloc (.cells (m.map bval).toArray 23)).alloc (.cells (ints .u8 (List.replicate 32 0)).toArray 23)).alloc (.cells (ints .i64 (List.replicate 64 0)).toArray 120)=w0 at*
 obtain⟨h1,h2,Z,T,hE⟩:=HB.o
 obtain⟨A,hA⟩:=nxq w.heap.size
 rw[←hA]at h1 h2 Z T⊢
 have b0:w.heap.size≤A:=by omega
 obtain⟨B,C,f,g⟩:=jq4 h1 h2 Z T
 have b:Hid (Ext w w0):=jh hE
 clear h1 h2 Z T hE HB hA
 obtain⟨S,hS⟩:=nxq (bytesN 64 (leN l*leN m))
 rw[←hS]at N a7 X
 clear hS
 generalize au:byl l=x at*
 generalize aw:byl m=y at*
 clear au aw
 go_loopw [6] (fun F wr=>∃(i:Nat),i≤32∧F=.int .i64 (i:Int)∧Blk wr A (l.map bval) 23∧Blk wr (A+1) (m.map bval) 23∧Blk wr (A+1+1) (ints .u8 (List.replicate 32 0)) 23∧Blk wr (A+1+1+1) (ints .i64 (tAll x y i)) 120∧Ext w wr) (fun F _=>32 - (intOf F).toNat)
 case atStart=>exact⟨0,by omega,rfl,B.o,C.o,f.o,g.o,b.o⟩
 case round=>
  clear B C f g b
  obtain⟨i,hi,rfl,s,r,p,d,n⟩:=hrel
  have k0:(0:Int)≤(i:Int):=Int.natCast_nonneg _
  by_cases a2:i<32
  ·have i1:(i:Int)<32:=by omega
   have ao:=jh (tAll_range I.o K.o i (by omega))
   have a5:=jh (tAll_length x y i)
   have ad:Hid (tAll x y (i+1)=mRow (tAll x y i) x y i 32):=jh rfl
   generalize tAll x y i=z at*
   obtain⟨B,C,f,g,b⟩:=jq5 s r p d n
   clear s r p d n
   go_wp2_with fail
   obtain⟨wo,rfl⟩:=nxq wr
   go_loopw [7] (fun P wr=>∃(j:Nat),j≤32∧P=.int .i64 (j:Int)∧Blk wr A (l.map bval) 23∧Blk wr (A+1) (m.map bval) 23∧Blk wr (A+1+1) (ints .u8 (List.replicate 32 0)) 23∧Blk wr (A+1+1+1) (ints .i64 (mRow z x y i j)) 120∧Ext w wr) (fun P _=>32 - (intOf P).toNat)
   case atStart=>exact⟨0,by omega,rfl,B.o,C.o,f.o,g.o,b.o⟩
   case round=>
    clear B C f g b
    obtain⟨j,hj,rfl,s,r,p,d,n⟩:=hrel
    have j0:(0:Int)≤(j:Int):=Int.natCast_nonneg _
    by_cases ak:j<32
    ·have j1:(j:Int)<32:=by omega
     have a6:=mRow_length z x y i j
     rw[a5.o]at a6
     have e1:=s.cell i
     rw[zbf (by rw[HL.o];exact a2),am.o]at e1
     have e2:=r.cell j
     rw[zbf (by rw[HM.o];exact ak),ac.o]at e2
     have L:=d.cell (i+j)
     rw[zav (by omega)]at L
     have f4:=d.free (i+j)
     have V:=I.o i
     have q2:=K.o j
     have q3:=tRow_range a2 a5.o ao.o I.o K.o j (by omega) (i+j)
     have a4:mRow z x y i (j+1)=(mRow z x y i j).set (i+j) ((mRow z x y i j).getD (i+j) 0+x.getD i 0*y.getD j 0):=rfl
     have a0:=jh a4
     have q4:=mul_range V.1 V.2 q2.1 q2.2
     generalize (mRow z x y i j).getD (i+j) 0=a at*
     generalize x.getD i 0=u at*
     generalize y.getD j 0=t at*
     obtain⟨Y,U⟩:=nxq (i+j)
     rw[←U]at L f4
     have b2:(i:Int)+(j:Int)=(Y:Int):=by omega
     have b1:(Y:Int)<64:=by omega
     obtain⟨al,B,C,f,g,b⟩:=jq6 U s r p d n
     clear a4 s r p d n a6 U
     go_wp2_with fail
     go_region
     go_wp2_with fail
     go_roundw
     case rel=>
      refine⟨j+1,by omega,by go_num,(B.o.far (by simp<;>omega) _).drewN 1,(C.o.far (by simp<;>omega) _).drewN 1,(f.o.far (by simp<;>omega) _).drewN 1,?_,(Below.setCell b.o (by simp<;>omega) _).drew⟩
      rw[a0.o,←al.o]
      exact(g.o.seti Y _).drewN 1
     case measure=>simp[intOf];omega
    have ar:j=32:=by omega
    subst ar
    rw[←ad.o]at d
    obtain⟨B,C,f,g,b⟩:=jq5 s r p d n
    clear s r p d n
    go_wp2_with fail
    go_roundw
    case rel=>exact⟨i+1,by omega,by go_num,B.o,C.o,f.o,g.o,b.o⟩
    case measure=>simp[intOf];omega
  have ag:i=32:=by omega
  subst ag
  have a3:=jh (tAll_range I.o K.o 32 (by omega))
  have Q:=jh (tAll_length x y 32)
  generalize tAll x y 32=t at*
  have aa:Hid (∀k,k≤64→0≤cM t k∧cM t k≤2080800):=jh (fun k E=>cM_range (M:=2080800) (fun j=>by have:=a3.o j;omega) k (by rw[Q.o];exact E))
  have ay:=jh (cM_zero t)
  have aq:Hid (∀k,k<64→(cM t k+t.getD k 0)%256=((S.getD k 0).toNat:Int)∧(cM t k+t.getD k 0) / 256=cM t (k+1)):=jh (fun k E=>by
   have h:=cM_step t k (by rw[Q.o];exact E)
   rw[ab.o,ah.o,←a7.o k E]at h
   exact h)
  obtain⟨f,g,G,b⟩:=jq4 (p.alloc (.cells (ints .u8 (List.replicate 64 0)).toArray 25)) (d.alloc (.cells (ints .u8 (List.replicate 64 0)).toArray 25)) (Blk.made wr (ints .u8 (List.replicate 64 0)) 25) (Ext.trans n (Ext.alloc wr (.cells (ints .u8 (List.replicate 64 0)).toArray 25)))
  have b3:A+1+1+1<wr.heap.size:=d.lt
  clear s r p d n
  go_wp2_with fail
  change Code.wp _ _ _ _ (wr.alloc (.cells (ints .u8 (List.replicate 64 0)).toArray 25))
  generalize wr.alloc (.cells (ints .u8 (List.replicate 64 0)).toArray 25)=w3 at*
  generalize wr.heap.size=D at*
  go_loopw [9,10] (fun cv F wr=>∃(k:Nat),k≤64∧F=.int .i64 (k:Int)∧cv=.int .i64 (cM t k)∧Blk wr (A+1+1) (ints .u8 (List.replicate 32 0)) 23∧Blk wr (A+1+1+1) (ints .i64 t) 120∧Blk wr D ((fill 64 S k).map bval) 25∧Ext w wr) (fun _ F _=>64 - (intOf F).toNat)
  case atStart=>exact⟨0,by omega,rfl,by rw[ay.o],f.o,g.o,by rw[fill_start];exact G.o,b.o⟩
  case round=>
   clear f g G b
   obtain⟨k,E,rfl,rfl,p,d,q,n⟩:=hrel
   have k0:(0:Int)≤(k:Int):=Int.natCast_nonneg _
   have ax:=aa.o k E
   by_cases a9:k<64
   ·have k1:(k:Int)<64:=by omega
    have ae:((fill 64 S k).map bval).length=64:=by rw[q100,zdr N.o (by omega)]
    have e5:=q.cell k
    rw[List.getElem?_eq_getElem (by omega)]at e5
    have f5:=q.free k
    generalize ((fill 64 S k).map bval)[k]'(by omega)=c5 at e5
    have ap:=Q.o
    have L:=d.cell k
    rw[zav (by omega)]at L
    have V:=a3.o k
    have R:=aq.o k a9
    generalize t.getD k 0=u at*
    obtain⟨ai,a0⟩:=jq2 R.2 (zcv (k:=k) N.o a9 R.1)
    generalize cM t k=c at*
    have H:=zcl (c+u) (by omega) (by omega)
    obtain⟨f,g,G,b⟩:=jq4 p d q n
    clear p d q n ae R ap
    go_wp2_with fail
    go_roundw
    case rel=>
     refine⟨k+1,by omega,by go_num,by rw[ai.o],f.o.far (by simp<;>omega) _,g.o.far (by simp<;>omega) _,?_,Below.setCell b.o (by simp<;>omega) _⟩
     rw[←a0.o]
     exact G.o.set k _
    case measure=>simp[intOf];omega
   have af:k=64:=by omega
   subst af
   rw[fill_full N.o]at q
   obtain⟨f,G,b⟩:=jq3 p q n
   clear p d q n ax
   go_wp2_with fail
   refine(X.o _ _ _ G.o (HG.o.ext b.o)).mono ?_
   rintro e w5 ⟨rfl,q⟩
   have f:=xxb f q
   have b:=xxt b q
   have a1:Hid ((Tryd.prog.info? 23).map (·.size)=some ((nq ((leN l*leN m:Nat):Int)).map bval).length):=jh (zag (nq_length _))
   have av:Hid (((nq ((leN l*leN m:Nat):Int)).map bval).length=(ints .u8 (List.replicate 32 0)).length):=jh (by rw[q100,nq_length];rfl)
   clear q X
   go_wp2_with (refine zah rfl _ _ _ rfl (A+1+1) _ rfl rfl _ _ f.o av.o a1.o (zac _) ?_;intro w7 aj an)
   exact bodyPost_ret (v:=.agg ((nq ((leN l*leN m:Nat):Int)).map bval).toArray) (result_row (by rfl) _ (A+1+1) _ _ _ (by rfl) aj Tryd.underlying23 rfl a1.o) rfl ⟨by rw[az.o],zab b.o an (by omega)⟩
end Go.Proofs.YtgnfdonbholcdaaDoor


