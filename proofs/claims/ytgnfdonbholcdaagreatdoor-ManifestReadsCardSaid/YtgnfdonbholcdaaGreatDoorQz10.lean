/- Lemmas. -/
import Derived.Test.YtgnfdonbholcdaaGreatDoorQz08
namespace Go.Proofs.YtgnfdonbholcdaaGreatDoor
set_option linter.unusedVariables false
set_option maxRecDepth 100000
set_option maxHeartbeats 32000000
set_option linter.unusedSimpArgs false
open Go.RowKit
def byl(l:List UInt8):List Int:=l.map fun b=>(b.toNat:Int)
theorem byl_getD(l:List UInt8)(i:Nat):(byl l).getD i 0=((l.getD i 0).toNat:Int):=by
 unfold byl
 simp only[List.getD,List.getElem?_map]
 cases l[i]? <;>simp
theorem byl_range(l:List UInt8)(i:Nat):0≤(byl l).getD i 0∧(byl l).getD i 0≤255:=by
 rw[byl_getD]
 have:=UInt8.toNat_lt (l.getD i 0)
 omega
def tAll(x y:List Int):Nat→List Int
 |0=>List.replicate 64 0
 |i+1=>mRow (tAll x y i) x y i 32
theorem tAll_length(x y:List Int):∀i,(tAll x y i).length=64
 |0=>by simp[tAll]
 |i+1=>by rw[tAll,mRow_length,tAll_length x y i]
theorem tRow_range {p x y:List Int} {i:Nat} {C:Int}(f:i<32)(d:p.length=64)(a:∀k,0≤p.getD k 0∧p.getD k 0≤C)(b:∀j,0≤x.getD j 0∧x.getD j 0≤255)(c:∀j,0≤y.getD j 0∧y.getD j 0≤255):
  ∀j,j≤32→∀k,0≤(mRow p x y i j).getD k 0∧(mRow p x y i j).getD k 0≤C+65025
 |0,_,k=>by have:=a k;simp only[mRow];omega
 |j+1,hj,k=>by
  have g:=tRow_range f d a b c j (by omega) k
  have h:=mul_range (b i).1 (b i).2 (c j).1 (c j).2
  simp only[mRow]
  by_cases e:i+j=k
  ·subst e
   rw[zai (by rw[mRow_length];omega),mRow_far p x y i j _ (by omega)]
   have:=a (i+j)
   omega
  rw[zae e]
  exact g
theorem tAll_range {x y:List Int}(b:∀j,0≤x.getD j 0∧x.getD j 0≤255)(a:∀j,0≤y.getD j 0∧y.getD j 0≤255):∀i,i≤32→∀k,0≤(tAll x y i).getD k 0∧(tAll x y i).getD k 0≤(i:Int)*65025
 |0,_,k=>by
  simp only[tAll,List.getD,List.getElem?_replicate]
  split<;>simp
 |i+1,hi,k=>by
  have:=tRow_range (i:=i) (C:=(i:Int)*65025) (by omega) (tAll_length x y i) (tAll_range b a i (by omega)) b a 32 (by omega) k
  simp only[tAll]
  omega
theorem tRow_val(p x y:List Int)(i:Nat)(c:i<32)(d:p.length=64)(b:y.length=32):∀j,j≤32→gV 256 (mRow p x y i j)=gV 256 p+x.getD i 0*256^i*gV 256 (y.take j)
 |0,_=>by simp[mRow,gV]
 |j+1,hj=>by
  simp only[mRow]
  rw[gV_set _ _ _ _ (by rw[mRow_length];omega),tRow_val p x y i c d b j (by omega),zcb _ y j (by omega),Int.pow_add]
  generalize (mRow p x y i j).getD (i+j) 0=a
  generalize (256:Int)^i=X
  generalize (256:Int)^j=Y
  generalize gV 256 (y.take j)=T
  generalize y.getD j 0=t
  generalize x.getD i 0=u
  grind
theorem tAll_val(x y:List Int)(b:x.length=32)(a:y.length=32):∀i,i≤32→gV 256 (tAll x y i)=gV 256 (x.take i)*gV 256 y
 |0,_=>by simp[tAll,gV_zeros,gV]
 |i+1,hi=>by
  simp only[tAll]
  have e:y.take 32=y:=q108 (by omega)
  rw[tRow_val _ _ _ _ (by omega) (tAll_length x y i) a 32 (by omega),tAll_val x y b a i (by omega),zcb _ x i (by omega),e]
  generalize (256:Int)^i=X
  generalize gV 256 y=T
  generalize gV 256 (x.take i)=S
  generalize x.getD i 0=u
  grind
def cM(t:List Int)(i:Nat):Int:=gV 256 (t.take i) / 256^i
theorem cM_zero(t:List Int):cM t 0=0:=by simp[cM,gV]
theorem cM_step(t:List Int)(i:Nat)(a:i<t.length):(cM t i+t.getD i 0)%256=gV 256 t / 256^i%256∧(cM t i+t.getD i 0) / 256=cM t (i+1):=by
 have d:(0:Int)<256^i:=Int.pow_pos (by omega)
 have b:gV 256 t=gV 256 (t.take i)+256^i*(t.getD i 0+256*gV 256 (t.drop (i+1))):=by
  have h:=gV_cut 256 t i (by omega)
  rw[q175 a,gV]at h
  rw[getD_eq a]
  exact h
 unfold cM
 refine⟨?_,?_⟩
 ·rw[b,Int.add_mul_ediv_left _ _ (by omega)]
  generalize gV 256 (t.take i) / 256^i=c
  omega
 rw[zcb _ t i a,q124,←Int.ediv_ediv_of_nonneg (by omega),Int.mul_comm (t.getD i 0),Int.add_mul_ediv_left _ _ (by omega)]
theorem cM_range {t:List Int} {M:Int}(a:∀k,0≤t.getD k 0∧t.getD k 0≤M):∀i,i≤t.length→0≤cM t i∧cM t i≤M
 |0,_=>by rw[cM_zero];have:=a 0;omega
 |i+1,hi=>by
  have b:=cM_range a i (by omega)
  have h:=(cM_step t i (by omega)).2
  have:=a i
  omega
theorem prod_val(l m:List UInt8)(b:l.length=32)(a:m.length=32):gV 256 (tAll (byl l) (byl m) 32)=((leN l*leN m:Nat):Int):=by
 have h1:(byl l).length=32:=by simp[byl,b]
 have h2:(byl m).length=32:=by simp[byl,a]
 have e:(byl l).take 32=byl l:=q108 (by omega)
 rw[tAll_val _ _ h1 h2 32 (by omega),e,Int.natCast_mul]
 unfold byl
 rw[gV_bytes,gV_bytes]
theorem prod_byte(x k:Nat):((x:Int) / 256^k%256)=((x / 256^k%256:Nat):Int):=by
 have e:((256:Int)^k)=((256^k:Nat):Int):=by simp
 rw[e,←Int.natCast_ediv]
 omega
theorem u8_oneV:(Tryz.prog.info? 5).map (·.size)=some 1:=by kernel_rfl
theorem rwide_v(v:Value)(a:List (List UInt8))(l:List UInt8)(w:World)(d:RowB w v a)(g:a.flatten=l)(h:l.length≤1099511627776)(c:GlobK5 w)(f:GlobO w):Calls Tryz.prog 77 #[v] w fun e b=>e=.returned (.agg ((wideB l).map bval).toArray)∧Below w.heap.size w b:=by
 subst g
 exact rwide_f v a w d h c f
theorem u8_one:(Tryz.prog.info? 5).map (·.size)=some 1:=by kernel_rfl
theorem rparts_f(s:List UInt8)(w:World)(hs:s.length=32)(b:GlobK5 w):Calls Tryz.prog 76 #[.agg (s.map bval).toArray] w fun e l=>∃x,e=.returned (.tuple #[.agg ((secA s).map bval).toArray,x])∧Row1 l x ((secH s).map bval)∧Below w.heap.size w l:=by
 obtain⟨i0,U,Y,a3,a5⟩:=info_parts Tryz.info5
 obtain⟨ab,a9,ah,ac,a7,HK⟩:=jq6 U Y a3 a5 hs b
 have HB:=jh (boxes2 w (s.map bval) (ints .u8 (List.replicate 32 0)) 23 23)
 clear U Y a3 a5 hs b
 go_enter Tryz.func76,Tryz.ntmps76
 go_upto_region 1 with(fail)
 obtain⟨T,L,a⟩:=HB.o
 change Code.wp _ _ _ _ ((w.alloc (.cells (s.map bval).toArray 23)).alloc (.cells (ints .u8 (List.replicate 32 0)).toArray 23))
 generalize (w.alloc (.cells (s.map bval).toArray 23)).alloc (.cells (ints .u8 (List.replicate 32 0)).toArray 23)=wa at*
 obtain⟨A,hA⟩:=nxq w.heap.size
 have a8:Hid (w.heap.size≤A):=jh (by omega)
 rw[←hA]at T L⊢
 have a1:=jh (zbz (n:=32) T (by rw[q100,a7.o]) (by unfold maxLen;omega))
 have c:=jh L
 have a:Hid (Ext w wa):=jh a
 clear hA HB T L
 go_wp2_with fail
 refine(rShb_any _ s wa a1.o (by rw[a7.o];omega) (HK.o.ext a.o)).mono ?_
 rintro e y ⟨rfl,F⟩
 have c:=xxb c F
 have a:=xxt a F
 clear F a1
 have f:=jh (zdw s)
 have a4:Hid (secA s=clampB ((sha512 s).take 32)):=jh rfl
 have aa:Hid (secH s=(sha512 s).drop 32):=jh rfl
 generalize sha512 s=h at*
 obtain⟨HZ,a6⟩:=jq2 (Blk.made y (ints .u8 (List.replicate 64 0)) 26) (Ext.alloc y (.cells (ints .u8 (List.replicate 64 0)).toArray 26))
 have Z:Hid ((h.map bval).length=(ints .u8 (List.replicate 64 0)).length):=jh (by rw[q100,f.o,zaa];rfl)
 go_upto_region 2 with(refine ssb y.heap.size (h.map bval) HZ.o Z.o (zep f.o) (zac _) ?_;intro q N B)
 have P:=jh (zab a6.o B (q101 _))
 obtain⟨S,X⟩:=nxq y.heap.size
 have ag:Hid (A+1<S):=jh (by rw[X];exact c.o.lt)
 have c:=xxb c P.o
 have a:=xxt a P.o
 rw[←X]at N⊢
 have d:=jh N
 clear N B HZ a6 P Z X
 have G:=Ext.alloc q (.cells (ints .u8 (List.replicate 32 0)).toArray 23)
 obtain⟨O,M⟩:=nxq q.heap.size
 have t:Hid (A+1<O∧S<O∧w.heap.size≤O):=jh (by have:=d.o.lt;have:=a.o.size;have:=ag.o;omega)
 have r:Hid (Blk (q.alloc (.cells (ints .u8 (List.replicate 32 0)).toArray 23)) O ((List.replicate 32 (0:UInt8)).map bval) 23):=jh (by rw[M];exact Blk.made q (ints .u8 (List.replicate 32 0)) 23)
 obtain⟨c,d⟩:=xq2 c d G
 have a:=xxt a G
 clear G
 go_upto_region 3 with(fail)
 change Code.wp _ _ _ _ (q.alloc (.cells (ints .u8 (List.replicate 32 0)).toArray 23))
 rw[←M]
 clear M
 generalize q.alloc (.cells (ints .u8 (List.replicate 32 0)).toArray 23)=w3 at*
 refine swf 2 1 2 ?_
 refine zde (.slice (some ⟨O,0,none⟩) 32 32) (by rfl) (fun w hw=>by go_simp) ?_
 simp only[nm]
 refine zde (.slice (some ⟨S,0,none⟩) 32 64) (by rfl) (fun w hw=>by go_simp) ?_
 simp only[nm]
 refine det_nil (end_store (k:=2) rfl (by kernel_rfl) (by kernel_rfl) (by kernel_rfl) rfl (fun w4 V=>?_))
 obtain⟨c,d,r⟩:=xq3 c d r V
 have a:=xxt a V
 clear V
 have g:Hid ((h.take 32).length=32):=jh (by rw[q107,f.o];rfl)
 refine zbu _ _ 24 24 rfl 5 q104 u8_one _ _ _ _ _ _ rfl rfl O 0 _ _ r.o ((h.take 32).map bval) (by rw[q100,g.o];rfl) (fun _=>⟨rfl,⟨S,0,none⟩,rfl,fun j v J=>?_⟩) (by rw[q100,g.o];simp) (zac _) ?_
 ·have af:j<32:=by
   rcases q114 j 32 with h'|h'
   ·exact h'
   rw[List.getElem?_eq_none (by rw[q100,g.o];omega)]at J;cases J
  rw[WideShapes.add_plain,q117,d.o.cell,←J,List.getElem?_map,List.getElem?_map,List.getElem?_take,if_pos af]
 intro p E D
 have a0:splice ((List.replicate 32 (0:UInt8)).map bval) 0 ((h.take 32).map bval)=(h.take 32).map bval:=by
  rw[splice_bytes,g.o]
  simp
 rw[a0]at E
 have c:=jh (c.o.grown D (by have:=t.o;simp;omega))
 have d:=jh (d.o.grown D (by have:=t.o;simp;omega))
 obtain⟨a,r⟩:=jq2 (zab a.o D t.o.2.2) E
 clear E D a0
 generalize goInt ((h.take 32).map bval).length=g1
 simp only[nm]
 have z:=jh (zcy g.o)
 rw[←a4.o]at z
 have HC:Hid (∀w,Calls Tryz.prog 119 #[.agg ((h.take 32).map bval).toArray] w fun e l=>e=.returned (.agg ((secA s).map bval).toArray)∧Below w.heap.size w l):=jh (fun w=>by rw[a4.o];exact rclamped_any _ w g.o)
 have ad:Hid (Row1 p (.slice (some ⟨S,32,none⟩) 32 32) ((h.drop 32).map bval)):=jh (by
  have h1:=row_cut q104 q111 (zbz (n:=64) d.o (by rw[q100,f.o]) (by unfold maxLen;omega)) 32 (by rw[q100,f.o];omega)
  refine⟨some ⟨S,32,none⟩,32,by rw[q100,q120,f.o],by rw[q100,q120,f.o];omega,by unfold maxLen;omega,(fun e=>by cases e),fun _=>⟨S,32,rfl,d.o.lt,fun i U=>?_⟩⟩
  rw[d.o.cell,List.getElem?_map,List.getElem?_map,List.getElem?_drop])
 have a2:Hid ((h.drop 32).length=32):=jh (by rw[q120,f.o])
 have HO:Hid (A+1<O):=jh t.o.1
 generalize h.take 32=ht at*
 generalize h.drop 32=hd at*
 go_upto_region 4 with(fail)
 have rs:=ad.o
 have B0:Ext p p.drew:=Ext.drew _
 refine wp_region_held_drew (S:=fun l=>Far (A+1) p l) (by kernel_rfl) (zap B0) (fun m=>?_)
 have rs:=rs.below (Ext.drew _)
 refine tke 0 (.agg ((ht).map bval).toArray) rfl (sld O 0 (fun w h=>zat r.o (by have:=HO.o;omega) h) q102 (zaf g.o)) m ?_
 simp only[nm]
 refine tke 2 (.slice (some ⟨S,32,none⟩) 32 32) rfl (zbp _ _ _ _ (.pointer (some ⟨S,0,none⟩)) (.slice (some ⟨S,32,none⟩) 32 32) (some (.int .i64 32)) none (by rfl) rfl rfl rfl rfl (fun w=>by go_simp)) m ?_
 simp only[nm]
 refine rdy 1 rfl fun K b=>?_
 go_simp
 refine(HC.o _).mono ?_
 rintro e R ⟨rfl,b1⟩
 have rs:=rs.below b1
 have Q:Ext p R:=B0.trans b1
 refine b.o _ _ (zap Q) (fun m=>?_)
 clear b K
 try simp only[nm]
 refine rdy 3 rfl fun K b=>?_
 refine zan (by rfl) ?_
 refine zbh _ _ 24 rfl (R).heap.size 5 i0 (.int .u8 0) 1 q104 ab.o a9.o ah.o ac.o rfl (.slice none 0 0) 0 [] rfl (World.ownsRow_nil _ _ _ _) rfl rs (zac _) (by rw[q100,a2.o];unfold maxLen;omega) (by rw[q100,a2.o];omega) (q101 _) ?_
 intro v2 H I B
 have W:Ext R H:=zbf (Ext.refl _) (World.ownsRow_nil _ _ 5 _) (q101 _) B
 have rs:=rs.below W
 rw[q115]at I
 have r2:Row1 H v2 ((hd).map bval):=Row1.of_own I
 have u:Ext p H:=Q.trans W
 have own_far:Hid (v2.ownBlock≠some (A+1)):=jh (Row1.own_ne I (by have:=t.o;have:=r.o.lt;have:=Q.size;omega))
 refine b.o _ _ (zap u) (fun m=>?_)
 clear b K
 try simp only[nm]
 refine rdy 4 rfl fun K b=>?_
 refine zan (by rfl) ?_
 refine zar _ _ _ rfl (A+1) ((secA s).map bval) rfl rfl _ _ (zak c.o u) (by rw[q100,z.o,zaa];rfl) (zaf (z.o)) (zac _) ?_
 intro m3 ae C
 refine b.o _ _ (zby u C) (fun m=>?_)
 clear b K
 try simp only[nm]
 refine rdy 5 rfl fun K b=>?_
 go_simp
 refine b.o _ _ (zby u C) (fun m=>?_)
 clear b K
 try simp only[nm]
 refine dne ?_
 go_wp2_with fail
 refine bodyPost_ret (zau rfl _ (A+1) _ _ _ rfl ae q102 rfl (zaf z.o)) rfl ?_
 refine⟨_,rfl,?_,zab (a.o.trans u) C (by have:=a8.o;omega)⟩
 rw[aa.o]
 exact r2.grown C (fun k hk e=>by cases hk;exact own_far.o e)
theorem rpublic_f(s:List UInt8)(w:World)(N:s.length=32)(b:GlobK5 w)(E:GlobD w)(C:GlobX w)(B:GlobY w):Calls Tryz.prog 53 #[.agg (s.map bval).toArray] w fun e l=>e=.returned (.agg ((edPub s).map bval).toArray)∧Below w.heap.size w l:=by
 obtain⟨O,HK,a3,a5,a7,D⟩:=jq6 N b E C B (boxes2 w (s.map bval) (ints .u8 (List.replicate 32 0)) 23 23)
 clear N b E C B
 go_enter Tryz.func53,Tryz.ntmps53
 go_upto_region 1 with(fail)
 obtain⟨v,r,c⟩:=D.o
 change Code.wp _ _ _ _ ((w.alloc (.cells (s.map bval).toArray 23)).alloc (.cells (ints .u8 (List.replicate 32 0)).toArray 23))
 generalize (w.alloc (.cells (s.map bval).toArray 23)).alloc (.cells (ints .u8 (List.replicate 32 0)).toArray 23)=J at*
 obtain⟨A,L⟩:=nxq w.heap.size
 have Q:Hid (w.heap.size≤A):=jh (by omega)
 rw[←L]at v r⊢
 obtain⟨H,d⟩:=jq2 v r
 have c:Hid (Ext w J):=jh c
 clear L D v r
 go_wp2_with (refine slb A H.o q102 (zaf O.o) ?_)
 refine(rparts_f s J O.o (HK.o.ext c.o)).mono ?_
 rintro e i ⟨x,rfl,hx,p⟩
 have d:=xxb d p
 have c:=xxt c p
 clear hx p H
 have g:Hid ((secA s).length=32):=jh (by unfold secA;exact zcy (by rw[q107,zdw];rfl))
 have X:Hid (edPub s=encB (pmul (leN (secA s)) bP)):=jh rfl
 generalize secA s=a at*
 obtain⟨G,I⟩:=jq2 (Blk.made i (ints .u8 (List.replicate 32 0)) 23) (Ext.alloc i (.cells (ints .u8 (List.replicate 32 0)).toArray 23))
 have z:Hid ((a.map bval).length=(ints .u8 (List.replicate 32 0)).length):=jh (by rw[q100,g.o,zaa];rfl)
 go_upto_region 2 with(refine ssb i.heap.size (a.map bval) G.o z.o (zaf g.o) (zac _) ?_;intro wc t F)
 have y:=jh (zab I.o F (q101 _))
 obtain⟨T,q⟩:=nxq i.heap.size
 have V:Hid (A+1<T):=jh (by rw[q];exact d.o.lt)
 have d:=xxb d y.o
 have c:=xxt c y.o
 rw[←q]at t⊢
 have HT:=jh t
 clear t F G I y z q
 have a6:=jh (erun_full (Pt.es_is bP) (m:=256) (n:=leN a) (by have:=leN_lt a;rw[g.o]at this;exact Nat.lt_of_lt_of_eq this (by decide+kernel)))
 have j:Ext wc wc.drew:=Ext.drew _
 refine wp_region_held_drew (S:=fun l=>Far (A+1) wc l) (by kernel_rfl) (zap j) (fun f=>?_)
 refine tke 1 (.agg ((a).map bval).toArray) rfl (sld T 0 (fun w h=>zat HT.o (by have:=V.o;omega) h) q102 (zaf g.o)) f ?_
 simp only[nm]
 refine rdy 0 rfl fun K b=>?_
 go_simp
 refine(rbase_f _ (a5.o.ext (c.o.trans j)) (a7.o.ext (c.o.trans j))).mono ?_
 rintro e m1 ⟨v1,rfl,e1,b1⟩
 obtain⟨a1,c1,d1,g1,Y,z1⟩:=e1
 subst Y
 have u:Ext wc m1:=j.trans b1
 refine b.o _ _ (zap u) (fun f=>?_)
 clear b K
 try simp only[nm]
 refine rdy 2 rfl fun K b=>?_
 go_simp
 refine(rmany_f _ bP.es a _ (⟨_,_,_,_,rfl,z1⟩:PtV _ (bP.es)) g.o (a3.o.ext (c.o.trans u))).mono ?_
 rintro e U ⟨v2,rfl,Z,R⟩
 obtain⟨a2,c2,d2,g2,a0,z2⟩:=Z
 subst a0
 have P:Ext wc U:=u.trans R
 refine b.o _ _ (zap P) (fun f=>?_)
 clear b K
 try simp only[nm]
 refine rdy 3 rfl fun K b=>?_
 go_simp
 refine(rwritten_f _ _ (pmul (leN a) bP) _ (⟨_,_,_,_,rfl,z2⟩:PtV _ (erun 256 bP.es (leN a) 256)) a6.o).mono ?_
 rintro e m3 ⟨rfl,W⟩
 have k:Ext wc m3:=P.trans W
 refine b.o _ _ (zap k) (fun f=>?_)
 clear b K
 try simp only[nm]
 refine rdy 4 rfl fun K b=>?_
 refine zan (by rfl) ?_
 refine zar _ _ _ rfl (A+1) ((encB (pmul (leN a) bP)).map bval) rfl rfl _ _ (zak d.o k) (by rw[q100,encB_length,zaa];rfl) (zaf ((encB_length _))) (zac _) ?_
 intro m4 a4 M
 refine b.o _ _ (zby k M) (fun f=>?_)
 clear b K
 try simp only[nm]
 refine dne ?_
 go_wp2_with fail
 refine bodyPost_ret (zam rfl _ (A+1) _ _ _ _ rfl a4 q102 (zaf (encB_length _))) rfl ?_
 exact⟨by rw[X.o],zab (c.o.trans k) M (by have:=Q.o;omega)⟩
theorem bytesN_zero:∀n,bytesN n 0=List.replicate n 0
 |0=>rfl
 |n+1=>by
  simp only[bytesN,Nat.zero_div,bytesN_zero n,List.replicate_succ]
  rfl
theorem fill_tail(x k n:Nat)(h:x<256^k):fill (k+n) (bytesN (k+n) x) k=bytesN (k+n) x:=by
 have a:=bytesN_append k n x
 rw[q160 h,bytesN_zero]at a
 unfold fill
 rw[a,q166 (by rw[zaq];exact q101 _),q108 (by rw[zaq];exact q101 _),Nat.add_sub_cancel_left]
theorem cA_le(a b i:Nat):scl_cA a b i≤1:=by
 have c:0<256^i:=Nat.pow_pos (by omega)
 have h1:=Nat.mod_lt a c
 have h2:=Nat.mod_lt b c
 unfold scl_cA
 generalize 256^i=P at*
 have:(a%P+b%P) / P<2:=by rw[Nat.div_lt_iff_lt_mul c];omega
 omega
theorem rred_blk(x:Nat)(b:x<256^64) {w:World} {c:Nat} {t:TypeId}(h:Blk w c ((bytesN 64 x).map bval) t)(d:GlobO w):
  Calls Tryz.prog 121 #[.slice (some ⟨c,0,none⟩) 64 64] w fun e a=>e=.returned (.agg ((nq (x:Nat)).map bval).toArray)∧Below w.heap.size w a:=by
 have:=rReduce_num _ (bytesN 64 x) w (h.row (by rw[q100,zaq]) (by unfold maxLen;omega)) d
 rwa [q108 (by rw[zaq];exact q101 _),zem,q123 b]at this
theorem rAddQ_num(l m:List UInt8)(w:World)(M:l.length=32)(B:m.length=32)(C:GlobO w):
  Calls Tryz.prog 81 #[.agg (l.map bval).toArray,.agg (m.map bval).toArray] w fun e w'=>e=.returned (.agg ((nq ((leN l:Nat)+(leN m:Nat))).map bval).toArray)∧Below w.heap.size w w':=by
 obtain⟨T,HM,HG⟩:=jq3 M B C
 have J:=leN_lt l
 have I:=leN_lt m
 rw[M]at J
 rw[B]at I
 have H:leN l+leN m<256^33:=by
  have:(256:Nat)^32+256^32≤256^33:=by decide+kernel
  omega
 have Y:leN l+leN m<256^64:=q116 H (by decide+kernel)
 obtain⟨ae,af⟩:=jq2 (cA_zero (leN l) (leN m)) (cA_step (leN l) (leN m))
 have ac:Hid (leN l / 256^32%256=0):=jh (by rw[q160 J])
 have a9:Hid (leN m / 256^32%256=0):=jh (by rw[q160 I])
 obtain⟨W,E⟩:=jq2 (fill_tail (leN l+leN m) 33 31 H) (zaq 64 (leN l+leN m))
 have a1:=jh (fun k s=>zdl 64 (leN l+leN m) k s)
 have N:=jh (fun (w:World) (c:Nat) (t:TypeId) (h:Blk w c ((bytesN 64 (leN l+leN m)).map bval) t) C=>rred_blk (leN l+leN m) Y h C)
 have a3:=jh (fun k s=>leN_byte l k s)
 have aa:=jh (fun k s=>leN_byte m k s)
 have a8:Hid (nq ((leN l+leN m:Nat):Int)=nq ((leN l:Nat)+(leN m:Nat))):=jh (by rw[Int.natCast_add])
 have X:=jh (boxes4 w (l.map bval) (m.map bval) (ints .u8 (List.replicate 32 0)) (ints .u8 (List.replicate 64 0)) 23 23 23 25)
 clear M B C J I H Y
 go_enter Tryz.func81,Tryz.ntmps81
 go_wp2_with fail
 change Code.wp _ _ _ _ ((((w.alloc (.cells (l.map bval).toArray 23)).alloc (.cells (m.map bval).toArray 23)).alloc (.cells (ints .u8 (List.replicate 32 0)).toArray 23)).alloc (.cells (ints .u8 (List.replicate 64 0)).toArray 25))
 generalize (((w.alloc (.cells (l.map bval).toArray 23)).alloc (.cells (m.map bval).toArray 23)).alloc (.cells (ints .u8 (List.replicate 32 0)).toArray 23)).alloc (.cells (ints .u8 (List.replicate 64 0)).toArray 25)=w0 at*
 obtain⟨h1,h2,Q,R,U⟩:=X.o
 obtain⟨A,hA⟩:=nxq w.heap.size
 rw[←hA]at h1 h2 Q R⊢
 have ai:w.heap.size≤A:=by omega
 obtain⟨q,n,b,g⟩:=jq4 h1 h2 Q R
 have a:Hid (Ext w w0):=jh U
 clear h1 h2 Q R U X hA
 obtain⟨S,hS⟩:=nxq (bytesN 64 (leN l+leN m))
 rw[←hS]at W E a1 N
 clear hS
 go_loopw [6,7] (fun cv K wr=>∃(k:Nat),k≤33∧K=.int .i64 (k:Int)∧cv=.int .i64 ((scl_cA (leN l) (leN m) k:Nat):Int)∧Blk wr A (l.map bval) 23∧Blk wr (A+1) (m.map bval) 23∧Blk wr (A+1+1) (ints .u8 (List.replicate 32 0)) 23∧Blk wr (A+1+1+1) ((fill 64 S k).map bval) 25∧Ext w wr) (fun _ K _=>33 - (intOf K).toNat)
 case atStart=>exact⟨0,by omega,rfl,by rw[ae.o];rfl,q.o,n.o,b.o,by rw[fill_start];exact g.o,a.o⟩
 case round=>
  clear q n b g a
  obtain⟨k,s,rfl,rfl,j,p,r,d,i⟩:=hrel
  have k0:(0:Int)≤(k:Int):=Int.natCast_nonneg _
  have f:=af.o k
  have a4:=cA_le (leN l) (leN m) k
  by_cases ah:k<33
  ·have k1:(k:Int)<33:=by omega
   have ag:(k:Int)<64:=by omega
   have a0:((fill 64 S k).map bval).length=64:=by rw[q100,zeh E.o (by omega)]
   have Z:=d.cell k
   rw[List.getElem?_eq_getElem (by omega)]at Z
   have f4:=d.free k
   generalize ((fill 64 S k).map bval)[k]'(by omega)=c4 at Z
   have F:=a1.o k (by omega)
   by_cases D:k<32
   ·have k2:(k:Int)<32:=by omega
    have e1:=j.cell k
    rw[zbg (by rw[T.o];exact D),a3.o k (by rw[T.o];exact D)]at e1
    have e2:=p.cell k
    rw[zbg (by rw[HM.o];exact D),aa.o k (by rw[HM.o];exact D)]at e2
    have p1:leN l / 256^k%256<256:=Nat.mod_lt _ (by omega)
    have p2:leN m / 256^k%256<256:=Nat.mod_lt _ (by omega)
    have L:=jh f.2
    have u:=f.1
    rw[←F]at u
    generalize leN l / 256^k%256=x at*
    generalize leN m / 256^k%256=y at*
    generalize scl_cA (leN l) (leN m) k=c at*
    have O:=jh (zdg (k:=k) (z:=((c:Int)+(x:Int)+(y:Int))%256) E.o (by omega) (by omega))
    have B:=zct ((c:Int)+(x:Int)+(y:Int)) (by omega) (by omega)
    have P:Hid (((c:Int)+(x:Int)+(y:Int)) / 256=((scl_cA (leN l) (leN m) (k+1):Nat):Int)):=jh (by have:=L.o;omega)
    obtain⟨q,n,b,g,a⟩:=jq5 j p r d i
    clear j p r d i a0 F u f
    go_wp2_with fail
    go_region
    go_wp2_with fail
    go_roundw
    case rel=>
     refine⟨k+1,by omega,by go_num,by rw[P.o],(q.o.drewN 1).far (by simp<;>omega) _,(n.o.drewN 1).far (by simp<;>omega) _,(b.o.drewN 1).far (by simp<;>omega) _,?_,Below.setCell (a.o.trans (Ext.drew _)) (by simp<;>omega) _⟩
     rw[←O.o]
     exact(g.o.drewN 1).set k _
    case measure=>simp[intOf];omega
   have a5:k=32:=by omega
   subst a5
   rw[ac.o,a9.o]at f
   have L:=jh f.2
   have u:=f.1
   rw[←F]at u
   generalize scl_cA (leN l) (leN m) 32=c at*
   have O:=jh (zdg (k:=32) (z:=(c:Int)%256) E.o (by omega) (by omega))
   have B:=zct (c:Int) (by omega) (by omega)
   have P:Hid ((c:Int) / 256=((scl_cA (leN l) (leN m) (32+1):Nat):Int)):=jh (by have:=L.o;omega)
   obtain⟨q,n,b,g,a⟩:=jq5 j p r d i
   clear j p r d i a0 F u f
   go_wp2_with fail
   go_roundw
   case rel=>
    refine⟨32+1,by omega,by go_num,by rw[P.o],q.o.far (by simp<;>omega) _,n.o.far (by simp<;>omega) _,b.o.far (by simp<;>omega) _,?_,Below.setCell a.o (by simp<;>omega) _⟩
    rw[←O.o]
    exact g.o.set 32 _
   case measure=>simp[intOf]
  have ab:k=33:=by omega
  subst ab
  have V:fill 64 S 33=S:=W.o
  rw[V]at d
  obtain⟨b,g,a⟩:=jq3 r d i
  clear j p r d i V f a4
  go_wp2_with fail
  refine(N.o _ _ _ g.o (HG.o.ext a.o)).mono ?_
  rintro e w5 ⟨rfl,G⟩
  have b:=xxb b G
  have a:=xxt a G
  have a2:Hid ((Tryz.prog.info? 23).map (·.size)=some ((nq ((leN l+leN m:Nat):Int)).map bval).length):=jh (zaf (nq_length _))
  have a6:Hid (((nq ((leN l+leN m:Nat):Int)).map bval).length=(ints .u8 (List.replicate 32 0)).length):=jh (by rw[q100,nq_length];rfl)
  clear G N
  go_wp2_with (refine zal rfl _ _ _ rfl (A+1+1) _ rfl rfl _ _ b.o a6.o a2.o (zac _) ?_;intro w7 ad a7)
  exact bodyPost_ret (v:=.agg ((nq ((leN l+leN m:Nat):Int)).map bval).toArray) (result_row (by rfl) _ (A+1+1) _ _ _ (by rfl) ad q102 rfl a2.o) rfl ⟨by rw[a8.o],zab a.o a7 (by omega)⟩
theorem rMulQ_num(l m:List UInt8)(w:World)(N:l.length=32)(H:m.length=32)(K:GlobO w):
  Calls Tryz.prog 82 #[.agg (l.map bval).toArray,.agg (m.map bval).toArray] w fun e w'=>e=.returned (.agg ((nq ((leN l:Nat)*(leN m:Nat))).map bval).toArray)∧Below w.heap.size w w':=by
 obtain⟨HL,HM,HG⟩:=jq3 N H K
 have Q:=leN_lt l
 have U:=leN_lt m
 rw[N]at Q
 rw[H]at U
 have a3:leN l*leN m<256^64:=by
  have e:(256:Nat)^64=256^32*256^32:=by decide+kernel
  rw[e]
  exact Nat.mul_lt_mul'' Q U
 obtain⟨al,O⟩:=jq2 (prod_val l m N H) (zaq 64 (leN l*leN m))
 have a4:=jh (fun k E=>zdl 64 (leN l*leN m) k E)
 have ah:=jh (fun k=>prod_byte (leN l*leN m) k)
 have Y:=jh (fun (w:World) (c:Nat) (t:TypeId) (h:Blk w c ((bytesN 64 (leN l*leN m)).map bval) t) K=>rred_blk (leN l*leN m) a3 h K)
 have ab:Hid (nq ((leN l*leN m:Nat):Int)=nq ((leN l:Nat)*(leN m:Nat))):=jh (by rw[Int.natCast_mul])
 obtain⟨L,I⟩:=jq2 (byl_range l) (byl_range m)
 have aj:Hid (∀i,((l.getD i 0).toNat:Int)=(byl l).getD i 0):=jh (fun i=>(byl_getD l i).symm)
 have au:Hid (∀i,((m.getD i 0).toNat:Int)=(byl m).getD i 0):=jh (fun i=>(byl_getD m i).symm)
 have HB:=jh (boxes4 w (l.map bval) (m.map bval) (ints .u8 (List.replicate 32 0)) (ints .i64 (List.replicate 64 0)) 23 23 23 167)
 clear N H K Q U a3
 go_enter Tryz.func82,Tryz.ntmps82
 go_wp2_with fail
 change Code.wp _ _ _ _ ((((w.alloc (.cells (l.map bval).toArray 23)).alloc (.cells (m.map bval).toArray 23)).alloc (.cells (ints .u8 (List.replicate 32 0)).toArray 23)).alloc (.cells (ints .i64 (List.replicate 64 0)).toArray 167))
 generalize (((w.alloc (.cells (l.map bval).toArray 23)).alloc (.cells (m.map bval).toArray 23)).alloc (.cells (ints .u8 (List.replicate 32 0)).toArray 23)).alloc (.cells (ints .i64 (List.replicate 64 0)).toArray 167)=w0 at*
 obtain⟨h1,h2,h3,X,hE⟩:=HB.o
 obtain⟨A,hA⟩:=nxq w.heap.size
 rw[←hA]at h1 h2 h3 X⊢
 have b3:w.heap.size≤A:=by omega
 obtain⟨C,r,f,n⟩:=jq4 h1 h2 h3 X
 have b:Hid (Ext w w0):=jh hE
 clear h1 h2 h3 X hE HB hA
 obtain⟨S,hS⟩:=nxq (bytesN 64 (leN l*leN m))
 rw[←hS]at O a4 Y
 clear hS
 generalize az:byl l=x at*
 generalize ao:byl m=y at*
 clear az ao
 go_loopw [6] (fun F wr=>∃(i:Nat),i≤32∧F=.int .i64 (i:Int)∧Blk wr A (l.map bval) 23∧Blk wr (A+1) (m.map bval) 23∧Blk wr (A+1+1) (ints .u8 (List.replicate 32 0)) 23∧Blk wr (A+1+1+1) (ints .i64 (tAll x y i)) 167∧Ext w wr) (fun F _=>32 - (intOf F).toNat)
 case atStart=>exact⟨0,by omega,rfl,C.o,r.o,f.o,n.o,b.o⟩
 case round=>
  clear C r f n b
  obtain⟨i,hi,rfl,s,B,p,d,g⟩:=hrel
  have k0:(0:Int)≤(i:Int):=Int.natCast_nonneg _
  by_cases a8:i<32
  ·have i1:(i:Int)<32:=by omega
   have aa:=jh (tAll_range L.o I.o i (by omega))
   have a7:=jh (tAll_length x y i)
   have ai:Hid (tAll x y (i+1)=mRow (tAll x y i) x y i 32):=jh rfl
   generalize tAll x y i=z at*
   obtain⟨C,r,f,n,b⟩:=jq5 s B p d g
   clear s B p d g
   go_wp2_with fail
   obtain⟨wo,rfl⟩:=nxq wr
   go_loopw [7] (fun P wr=>∃(j:Nat),j≤32∧P=.int .i64 (j:Int)∧Blk wr A (l.map bval) 23∧Blk wr (A+1) (m.map bval) 23∧Blk wr (A+1+1) (ints .u8 (List.replicate 32 0)) 23∧Blk wr (A+1+1+1) (ints .i64 (mRow z x y i j)) 167∧Ext w wr) (fun P _=>32 - (intOf P).toNat)
   case atStart=>exact⟨0,by omega,rfl,C.o,r.o,f.o,n.o,b.o⟩
   case round=>
    clear C r f n b
    obtain⟨j,hj,rfl,s,B,p,d,g⟩:=hrel
    have j0:(0:Int)≤(j:Int):=Int.natCast_nonneg _
    by_cases ad:j<32
    ·have j1:(j:Int)<32:=by omega
     have a6:=mRow_length z x y i j
     rw[a7.o]at a6
     have e1:=s.cell i
     rw[zbg (by rw[HL.o];exact a8),aj.o]at e1
     have e2:=B.cell j
     rw[zbg (by rw[HM.o];exact ad),au.o]at e2
     have J:=d.cell (i+j)
     rw[zas (by omega)]at J
     have f4:=d.free (i+j)
     have Z:=L.o i
     have q2:=I.o j
     have q3:=tRow_range a8 a7.o aa.o L.o I.o j (by omega) (i+j)
     have a9:mRow z x y i (j+1)=(mRow z x y i j).set (i+j) ((mRow z x y i j).getD (i+j) 0+x.getD i 0*y.getD j 0):=rfl
     have a0:=jh a9
     have q4:=mul_range Z.1 Z.2 q2.1 q2.2
     generalize (mRow z x y i j).getD (i+j) 0=a at*
     generalize x.getD i 0=u at*
     generalize y.getD j 0=t at*
     obtain⟨V,R⟩:=nxq (i+j)
     rw[←R]at J f4
     have b0:(i:Int)+(j:Int)=(V:Int):=by omega
     have b1:(V:Int)<64:=by omega
     obtain⟨ae,C,r,f,n,b⟩:=jq6 R s B p d g
     clear a9 s B p d g a6 R
     go_wp2_with fail
     go_region
     go_wp2_with fail
     go_roundw
     case rel=>
      refine⟨j+1,by omega,by go_num,(C.o.far (by simp<;>omega) _).drewN 1,(r.o.far (by simp<;>omega) _).drewN 1,(f.o.far (by simp<;>omega) _).drewN 1,?_,(Below.setCell b.o (by simp<;>omega) _).drew⟩
      rw[a0.o,←ae.o]
      exact(n.o.seti V _).drewN 1
     case measure=>simp[intOf];omega
    have ag:j=32:=by omega
    subst ag
    rw[←ai.o]at d
    obtain⟨C,r,f,n,b⟩:=jq5 s B p d g
    clear s B p d g
    go_wp2_with fail
    go_roundw
    case rel=>exact⟨i+1,by omega,by go_num,C.o,r.o,f.o,n.o,b.o⟩
    case measure=>simp[intOf];omega
  have ak:i=32:=by omega
  subst ak
  have a2:=jh (tAll_range L.o I.o 32 (by omega))
  have W:=jh (tAll_length x y 32)
  generalize tAll x y 32=t at*
  have ac:Hid (∀k,k≤64→0≤cM t k∧cM t k≤2080800):=jh (fun k E=>cM_range (M:=2080800) (fun j=>by have:=a2.o j;omega) k (by rw[W.o];exact E))
  have aq:=jh (cM_zero t)
  have af:Hid (∀k,k<64→(cM t k+t.getD k 0)%256=((S.getD k 0).toNat:Int)∧(cM t k+t.getD k 0) / 256=cM t (k+1)):=jh (fun k E=>by
   have h:=cM_step t k (by rw[W.o];exact E)
   rw[al.o,ah.o,←a4.o k E]at h
   exact h)
  obtain⟨f,n,G,b⟩:=jq4 (p.alloc (.cells (ints .u8 (List.replicate 64 0)).toArray 25)) (d.alloc (.cells (ints .u8 (List.replicate 64 0)).toArray 25)) (Blk.made wr (ints .u8 (List.replicate 64 0)) 25) (Ext.trans g (Ext.alloc wr (.cells (ints .u8 (List.replicate 64 0)).toArray 25)))
  have b2:A+1+1+1<wr.heap.size:=d.lt
  clear s B p d g
  go_wp2_with fail
  change Code.wp _ _ _ _ (wr.alloc (.cells (ints .u8 (List.replicate 64 0)).toArray 25))
  generalize wr.alloc (.cells (ints .u8 (List.replicate 64 0)).toArray 25)=w3 at*
  generalize wr.heap.size=D at*
  go_loopw [9,10] (fun cv F wr=>∃(k:Nat),k≤64∧F=.int .i64 (k:Int)∧cv=.int .i64 (cM t k)∧Blk wr (A+1+1) (ints .u8 (List.replicate 32 0)) 23∧Blk wr (A+1+1+1) (ints .i64 t) 167∧Blk wr D ((fill 64 S k).map bval) 25∧Ext w wr) (fun _ F _=>64 - (intOf F).toNat)
  case atStart=>exact⟨0,by omega,rfl,by rw[aq.o],f.o,n.o,by rw[fill_start];exact G.o,b.o⟩
  case round=>
   clear f n G b
   obtain⟨k,E,rfl,rfl,p,d,q,g⟩:=hrel
   have k0:(0:Int)≤(k:Int):=Int.natCast_nonneg _
   have av:=ac.o k E
   by_cases a1:k<64
   ·have k1:(k:Int)<64:=by omega
    have ay:((fill 64 S k).map bval).length=64:=by rw[q100,zeh O.o (by omega)]
    have e5:=q.cell k
    rw[List.getElem?_eq_getElem (by omega)]at e5
    have f5:=q.free k
    generalize ((fill 64 S k).map bval)[k]'(by omega)=c5 at e5
    have ap:=W.o
    have J:=d.cell k
    rw[zas (by omega)]at J
    have Z:=a2.o k
    have T:=af.o k a1
    generalize t.getD k 0=u at*
    obtain⟨am,a0⟩:=jq2 T.2 (zdg (k:=k) O.o a1 T.1)
    generalize cM t k=c at*
    have H:=zct (c+u) (by omega) (by omega)
    obtain⟨f,n,G,b⟩:=jq4 p d q g
    clear p d q g ay T ap
    go_wp2_with fail
    go_roundw
    case rel=>
     refine⟨k+1,by omega,by go_num,by rw[am.o],f.o.far (by simp<;>omega) _,n.o.far (by simp<;>omega) _,?_,Below.setCell b.o (by simp<;>omega) _⟩
     rw[←a0.o]
     exact G.o.set k _
    case measure=>simp[intOf];omega
   have ar:k=64:=by omega
   subst ar
   rw[fill_full O.o]at q
   obtain⟨f,G,b⟩:=jq3 p q g
   clear p d q g av
   go_wp2_with fail
   refine(Y.o _ _ _ G.o (HG.o.ext b.o)).mono ?_
   rintro e w5 ⟨rfl,q⟩
   have f:=xxb f q
   have b:=xxt b q
   have a5:Hid ((Tryz.prog.info? 23).map (·.size)=some ((nq ((leN l*leN m:Nat):Int)).map bval).length):=jh (zaf (nq_length _))
   have aw:Hid (((nq ((leN l*leN m:Nat):Int)).map bval).length=(ints .u8 (List.replicate 32 0)).length):=jh (by rw[q100,nq_length];rfl)
   clear q Y
   go_wp2_with (refine zal rfl _ _ _ rfl (A+1+1) _ rfl rfl _ _ f.o aw.o a5.o (zac _) ?_;intro w7 an ax)
   exact bodyPost_ret (v:=.agg ((nq ((leN l*leN m:Nat):Int)).map bval).toArray) (result_row (by rfl) _ (A+1+1) _ _ _ (by rfl) an q102 rfl a5.o) rfl ⟨by rw[ab.o],zab b.o ax (by omega)⟩
end Go.Proofs.YtgnfdonbholcdaaGreatDoor


