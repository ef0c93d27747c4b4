/- Lemmas. -/
import Derived.Test.YtgnfdonbholcdaaDoorQz11
namespace Go.Proofs.YtgnfdonbholcdaaDoor
set_option linter.unusedVariables false
set_option maxRecDepth 100000
set_option maxHeartbeats 32000000
set_option linter.unusedSimpArgs false
open Go.RowKit
theorem rSeal_any(a nb p s:List UInt8)(N G:Value)(w:World)(q:a.length=32)(m:nb.length=12)(X:Row1 w N (p.map bval))(U:Row1 w G (s.map bval))(E:p.length≤1000000000)(J:s.length≤1000000000):
  Calls Tryd.prog 44 #[.agg (a.map bval).toArray,.agg (nb.map bval).toArray,N,G] w fun e W=>∃x,e=.returned x∧W.ownsRow w.heap.size 5 1 x (p.length+16) ((sealB a nb p s).map bval)∧Below w.heap.size w W:=by
 obtain⟨i0,L,D,R,Z⟩:=info_parts Tryd.info5
 obtain⟨a9,a6,a4,aa,ac,a8⟩:=jq6 L D R Z X U
 obtain⟨k,a7,M⟩:=jq3 E J (boxes2 w (a.map bval) (nb.map bval) 23 97)
 have z:Hid ((Tryd.prog.info? 23).map (·.size)=some (a.map bval).length):=jh (zag q)
 have I:Hid ((Tryd.prog.info? 97).map (·.size)=some (nb.map bval).length):=jh (nonce_size m)
 obtain⟨v,P⟩:=jq2 q m
 clear L D R Z X U q m E J
 go_enter Tryd.func44,Tryd.ntmps44
 go_upto_region 1 with(fail)
 obtain⟨f,d,b⟩:=M.o
 change Code.wp _ _ _ _ ((w.alloc (.cells (a.map bval).toArray 23)).alloc (.cells (nb.map bval).toArray 97))
 generalize (w.alloc (.cells (a.map bval).toArray 23)).alloc (.cells (nb.map bval).toArray 97)=C at*
 obtain⟨A,B⟩:=nxq w.heap.size
 have ae:Hid (w.heap.size≤A):=jh (by omega)
 rw[←B]at f d⊢
 obtain⟨f,d⟩:=jq2 f d
 have b:Hid (Ext w C):=jh b
 clear B M
 go_wp2_with (first|(refine slb A f.o Tryd.underlying23 z.o ?_)|(refine slb (A+1) d.o Tryd.underlying97 I.o ?_))
 refine(rTurn_any a nb p _ 1 C v.o P.o (ac.o.below b.o) (by have:=k.o;omega) (by decide) (by decide)).mono ?_
 rintro e H ⟨x1,rfl,F,l⟩
 have r:Hid (H.ownsRow w.heap.size 5 1 x1 p.length ((chaTurn a 1 nb p).map bval)):=jh (zce F b.o.size)
 obtain⟨f,d⟩:=xq2 f d l
 have b:=xxt b l
 clear F l
 have a5:=jh (chaTurn_length a 1 nb p)
 have a3:Hid (sealB a nb p s=chaTurn a 1 nb p++aeaTag a nb (chaTurn a 1 nb p) s):=jh rfl
 generalize chaTurn a 1 nb p=c at*
 go_wp2_with (first|(refine slb A f.o Tryd.underlying23 z.o ?_)|(refine slb (A+1) d.o Tryd.underlying97 I.o ?_))
 refine(rTag_any a nb c s _ _ H v.o P.o (Row1.of_own r.o) (a8.o.below b.o) (by rw[a5.o];exact k.o) a7.o).mono ?_
 rintro e j ⟨rfl,u⟩
 have b:=xxt b u
 have a1:=jh (zbi r.o u)
 clear u r f d
 have h:=jh (aeaTag_length a nb c s)
 generalize aeaTag a nb c s=i at*
 obtain⟨HZ,O⟩:=jq2 (Blk.made j (ints .u8 (List.replicate 16 0)) 112) (Ext.alloc j (.cells (ints .u8 (List.replicate 16 0)).toArray 112))
 have a2:Hid ((Tryd.prog.info? 112).map (·.size)=some (i.map bval).length):=jh (tag_size h.o)
 have Q:Hid ((i.map bval).length=(ints .u8 (List.replicate 16 0)).length):=jh (by rw[q100,h.o,zaa,q110])
 go_upto_region 3 with(refine ssb j.heap.size (i.map bval) HZ.o Q.o a2.o (zac _) ?_;intro w3 t S)
 have g:=jh (zab O.o S (q101 _))
 have V:=jh (zbi a1.o g.o)
 have b:=xxt b g.o
 obtain⟨T,K⟩:=nxq j.heap.size
 rw[←K]at t⊢
 have ab:=jh (zbv (n:=16) t (by rw[q100,h.o]) (by unfold maxLen;omega))
 clear t S HZ O g Q K a1
 have y:Hid (p.length+(i.map bval).length≤1000000100):=jh (by rw[q100,h.o];have:=k.o;omega)
 go_wp2_with (at_builtin;refine zad rfl _ _ 24 rfl w.heap.size 5 i0 (.int .u8 0) 1 Tryd.underlying24 a9.o a6.o a4.o aa.o rfl _ _ _ rfl V.o rfl ab.o (zac _) (by have:=y.o;unfold maxLen;omega) (by have:=y.o;omega) b.o.size ?_;intro v4 w4 Y a0)
 have g:=jh (zay b.o V.o (q101 _) a0)
 have ad:Hid (w4.ownsRow w.heap.size 5 1 v4 (p.length+16) ((sealB a nb p s).map bval)):=jh (zcn Y (by rw[q100,h.o]) (by rw[a3.o,q104]))
 clear Y a0
 go_ret
 exact⟨_,rfl,ad.o,g.o⟩
/-- The document's own One: a number's bytes. -/
theorem rone_any(n:Int)(w:World):
  Calls Tryd.prog 18 #[.int .i64 n] w fun e w'=>∃v,e=.returned v∧w'.ownsRow w.heap.size 5 1 v 8 ((zbh n).map bval)∧Below w.heap.size w w':=by
 have h:=jh (rint_any (w.alloc (.cells #[.int .i64 n] 3)) (bl:=[]) (ns:=[n]) (Row1.nil _) (Row1.made w #[.int .i64 n] 3 _ 1 [.int .i64 n] rfl rfl rfl (by unfold maxLen;omega):Row1 _ _ ([n].map (.int .i64))) (by simp))
 go_enter Tryd.func18,Tryd.ntmps18
 go_wp2_with fail
 refine(h.o).mono ?_
 rintro e w' ⟨v,rfl,hown,hbel⟩
 have hown2:w'.ownsRow w.heap.size 5 1 v 8 ((zbh n).map bval):=by
  have:(([]:List UInt8)++be8s [n])=zbh n:=by simp[be8s]
  rw[this]at hown
  obtain⟨g1,g2⟩:=hown
  refine⟨g1,?_⟩
  rcases g2 with⟨g3,g4⟩|⟨g,cap,cur,r1,r2,r3⟩
  ·exact Or.inl ⟨g3,g4⟩
  exact Or.inr ⟨g,cap,cur,r1,by simp at r2;omega,r3⟩
 have hbel2:Below w.heap.size w w':=((Below.refl w.heap.size w).alloc (q101 _) _).trans (hbel.mono (by simp))
 clear hown hbel
 obtain⟨HO,HB⟩:=jq2 hown2 hbel2
 clear hown2 hbel2
 go_wp2_with fail
 go_ret
 exact⟨_,rfl,HO.o,HB.o⟩
def setC(r s d k:List UInt8):List Value:=r.map bval++(s.map bval++(d.map bval++k.map bval))
theorem zdo {r s d k:List UInt8}(a:r.length=32)(e:s.length=32)(b:d.length=32)(c:k.length=32):(setC r s d k).length=128:=by
 unfold setC
 simp only[q102,q100,a,e,b,c]
theorem set_size {r s d k:List UInt8}(a:r.length=32)(e:s.length=32)(b:d.length=32)(c:k.length=32):(Tryd.prog.info? 43).map (·.size)=some (setC r s d k).length:=by
 rw[zdo a e b c]
 kernel_rfl
theorem set_parts {w:World} {c:Nat} {r s d k:List UInt8} {t:TypeId}(h:Blk w c (setC r s d k) t)(a:r.length=32)(e:s.length=32)(b:d.length=32):w.rangeAt c 0 (r.map bval)∧w.rangeAt c 32 (s.map bval)∧w.rangeAt c 64 (d.map bval)∧w.rangeAt c 96 (k.map bval):=by
 have h0:w.rangeAt c 0 (r.map bval++(s.map bval++(d.map bval++k.map bval))):=h.range
 have h1:w.rangeAt c 32 (s.map bval++(d.map bval++k.map bval)):=rng_hi h0 (by rw[q100,a]) rfl
 have h2:w.rangeAt c 64 (d.map bval++k.map bval):=rng_hi h1 (by rw[q100,e]) rfl
 exact⟨rng_lo h0,rng_lo h1,rng_lo h2,rng_hi h2 (by rw[q100,b]) rfl⟩
def z12:List UInt8:=List.replicate 12 0
theorem z12_length:z12.length=12:=by simp[z12]
theorem lay_non(i:Int):splice (z12.map bval) 4 ((zbh i).map bval)=(([0,0,0,0]++zbh i:List UInt8)).map bval:=by
 have h:=splice_mid (pre:=([0,0,0,0]:List UInt8).map bval) (mid:=(List.replicate 8 (0:UInt8)).map bval) (post:=[]) (new:=(zbh i).map bval) (by rw[q100,q100,zcc];rfl)
 rw[q104]
 simpa[z12]using h
theorem rnonce_any(i:Int)(w:World):Calls Tryd.prog 48 #[.int .i64 i] w fun e B=>e=.returned (.agg ((([0,0,0,0]++zbh i:List UInt8)).map bval).toArray)∧Below w.heap.size w B:=by
 have u:=jh (boxes2 w (z12.map bval) (z12.map bval) 97 97)
 go_enter Tryd.func48,Tryd.ntmps48
 go_upto_region 2 with(fail)
 obtain⟨h1,h2,y⟩:=u.o
 change Code.wp _ _ _ _ ((w.alloc (.cells (z12.map bval).toArray 97)).alloc (.cells (z12.map bval).toArray 97))
 generalize (w.alloc (.cells (z12.map bval).toArray 97)).alloc (.cells (z12.map bval).toArray 97)=j at*
 obtain⟨N,s⟩:=nxq (w.heap.size+1)
 rw[←s]at h2⊢
 obtain⟨R,t⟩:=nxq w.heap.size
 rw[←t]at h1⊢
 have m:Hid (R<N∧w.heap.size=R):=jh (by omega)
 have c:Hid (Ext w j):=jh y
 obtain⟨d,b⟩:=jq2 h1 h2
 clear s t u h1 h2 y
 refine wp_region_held_drew (S:=fun _=>True) (by kernel_rfl) trivial (fun a=>?_)
 refine tke 0 (.slice (some ⟨N,4,none⟩) 8 8) rfl (zbb (.slice (some ⟨N,4,none⟩) 8 8) (by rfl) (fun w _=>by go_simp)) a ?_
 simp only[nm]
 refine tke 1 (.int .i64 i) rfl (zba _ (.int .i64 i) (by rfl) rfl rfl) a ?_
 simp only[nm]
 refine wpAnyH_ready (rs:=[2]) (by kernel_rfl) (by simp) (AllReadyH.cons rfl (fun K0 f=>?_) AllReadyH.nil)
 go_simp
 refine(rone_any i j.drew).mono ?_
 rintro e F ⟨D,rfl,r,z⟩
 have p:=Row1.of_own r
 obtain⟨G,E,x,_⟩:=id p
 rw[q100,zcc]at x
 subst x
 obtain⟨q,g⟩:=jq2 p ((Ext.drew j).trans z)
 obtain⟨d,b⟩:=xq2 d b g.o
 have c:=xxt c g.o
 clear p r z g
 refine f.o _ _ trivial (fun a=>?_)
 clear f K0
 try simp only[nm]
 refine wpAnyH_ready (rs:=[3]) (by kernel_rfl) (by simp) (AllReadyH.cons rfl (fun K0 f=>?_) AllReadyH.nil)
 refine zan (by rfl) ?_
 refine zcf _ _ 24 24 rfl 5 Tryd.underlying24 one_u8m _ _ _ _ _ _ rfl rfl N 4 _ _ b.o ((zbh i).map bval) (by rw[q100,zcc];rfl) (fun h=>⟨rfl,row_src q.o (zbh i) (by rw[q125]) (q101 _) (Ext.refl _) h⟩) (by rw[q100,q100,zcc,z12_length];omega) (zac _) ?_
 intro wc k n
 rw[lay_non]at k
 have b:=jh k
 have d:=jh (d.o.grown n (by have:=m.o;simp;omega))
 have c:=jh (zab c.o n (by have:=m.o;omega))
 clear k n q
 refine f.o _ _ trivial (fun a=>?_)
 clear f K0 a
 try simp only[nm]
 refine dne ?_
 have v:Hid (([0,0,0,0]++zbh i:List UInt8).length=12):=jh rfl
 have l:=jh (nonce_size v.o)
 go_wp2_with (first|(refine slb N b.o Tryd.underlying97 l.o ?_)|(refine ssb R ((([0,0,0,0]++zbh i:List UInt8)).map bval) d.o (by rw[q100,q100,v.o,z12_length]) l.o (zac _) ?_;intro H A C))
 refine bodyPost_ret (zat rfl _ R _ _ _ _ rfl A Tryd.underlying97 l.o) rfl ?_
 exact⟨rfl,zab c.o C (by have:=m.o;omega)⟩
theorem rSealBlock_any(key:List UInt8)(ver:Int)(i:Nat)(p:List UInt8)(l:Value)(w:World)(t:key.length=32)(H:smallB ver=true)(hi:i≤31)(j:Row1 w l (p.map bval))(M:p.length=64):
  Calls Tryd.prog 35 #[.agg (key.map bval).toArray,.int .i64 ver,.int .i64 (i:Int),l] w fun e s=>∃x,e=.returned (.tuple #[x,.int .i64 0])∧s.ownsRow w.heap.size 5 1 x 80 ((blkS key ver i p).map bval)∧Below w.heap.size w s:=by
 obtain⟨a,W,n,_⟩:=id j
 rw[q100]at n
 obtain⟨Y,I⟩:=nxq p.length
 rw[←I]at n
 subst n
 obtain⟨O,y,P,J,F⟩:=jq5 t M (zag t) j (And.intro (Blk.made w (key.map bval) 23) (Ext.alloc w (.cells (key.map bval).toArray 23)))
 go_enter Tryd.func35,Tryd.ntmps35
 go_upto_region 1 with(fail)
 obtain⟨h0,L⟩:=F.o
 change Code.wp _ _ _ _ (w.alloc (.cells (key.map bval).toArray 23))
 generalize w.alloc (.cells (key.map bval).toArray 23)=c at*
 obtain⟨A,z⟩:=nxq w.heap.size
 rw[←z]at h0⊢
 have U:=jh h0
 have v:Hid (Ext w c):=jh L
 have E:Hid (w.heap.size=A):=jh (by omega)
 clear F L h0 z
 have Z:=jh (J.o.below v.o)
 have R:Y=64:=by omega
 subst R
 have N:decide ((i:Int)<0)=false:=decide_eq_false (by omega)
 have V:decide ((31:Int)<(i:Int))=false:=decide_eq_false (by omega)
 clear I t j M J
 go_wp2_with fail
 refine(rsmall_q ver true c H).mono ?_
 rintro e w3 ⟨rfl,rfl⟩
 clear H
 go_upto_region 3 with(fail)
 clear N V
 generalize n:Value.slice a 64 W=l at*
 have D:Ext c c.drew:=Ext.drew _
 refine wp_region_held_drew (S:=fun s=>Ext c s) (by kernel_rfl) D (fun q=>?_)
 refine tke 0 (.agg ((key).map bval).toArray) rfl (sld A 0 (fun w h=>zau U.o h) Tryd.underlying23 P.o) q ?_
 simp only[nm]
 refine tke 1 (.int .i64 (i:Int)) rfl (zba _ (.int .i64 (i:Int)) (by rfl) rfl rfl) q ?_
 simp only[nm]
 refine tke 3 l rfl (zba _ (l) (by rfl) rfl rfl) q ?_
 simp only[nm]
 refine tke 4 (.int .i64 ver) rfl (zba _ (.int .i64 ver) (by rfl) rfl rfl) q ?_
 simp only[nm]
 refine wpAnyH_rel (B:=c) [(2,some 28,.is (.agg ((nonB i).map bval).toArray)),(5,some 31,.row ((zbh ver).map bval)),(6,some 32,.own c.heap.size 5 80 ((blkS key ver i p).map bval) 7),(7,some 8,.own c.heap.size 5 80 ((blkS key ver i p).map bval) 9),(8,some 9,.is (.int .i64 0))] D (fun u=>?_) (fun u T G j=>?_)
 ·simp only[putsR,Act.put,List.setIfInBounds_toArray,List.set_cons_zero,List.set_cons_succ]
  refine RelOb.cons rfl rfl (fun d K k g f=>?_) ?_
  ·go_simp
   have h:=rnonce_any (i:Int) d
   rw[nonB_is]at h
   refine h.mono ?_
   rintro e m ⟨rfl,b⟩
   exact f.o _ _ (Or.inl b) ⟨rfl,fun h=>by cases h⟩
  refine RelOb.cons rfl rfl (fun d K k g f=>?_) ?_
  ·go_simp
   refine(rone_any ver d).mono ?_
   rintro e m ⟨x,rfl,o,b⟩
   exact f.o _ _ (Or.inl b) ⟨Row1.of_own o,fun h=>by cases h⟩
  refine RelOb.cons rfl rfl (fun d K k g f=>?_) ?_
  ·have h2:u 2=.agg ((nonB i).map bval).toArray:=(g 2 (by kernel_rfl)).1
   have X:Row1 d (u 5) ((zbh ver).map bval):=(g 5 (by kernel_rfl)).1
   have h:=rSeal_any key (nonB i) p (zbh ver) _ _ d O.o (nonB_length i) (Z.o.below k) X (by rw[y.o];decide) (by rw[zcc];decide)
   rw[←h2]at h
   clear h2
   go_simp
   refine h.mono ?_
   rintro e m ⟨x,rfl,o,b⟩
   rw[blkS_is,y.o]at o
   have C:m.ownsRow c.heap.size 5 1 x 80 ((blkS key ver i p).map bval):=zce o k.size
   exact f.o _ _ (Or.inl b) ⟨Row1.of_own C,fun _=>C⟩
  refine RelOb.cons rfl rfl (fun d K k g f=>?_) ?_
  ·have h0:=g 6 (by kernel_rfl)
   have r:Row1 d (u 6) ((blkS key ver i p).map bval):=h0.1
   exact ob_assign _ (u 6) (f.o _ _ (Or.inl (Ext.refl _)) ⟨r,fun _=>h0.2 rfl⟩) (by rfl) rfl rfl rfl
  refine RelOb.cons rfl rfl (fun d K k g f=>?_) ?_
  ·exact ob_assign _ (.int .i64 0) (f.o _ _ (Or.inl (Ext.refl _)) ⟨rfl,fun h=>by cases h⟩) (by rfl) rfl rfl rfl
  exact RelOb.nil
 simp only[putsR,Act.put,List.setIfInBounds_toArray,List.set_cons_zero,List.set_cons_succ]
 have E:Hid (T.ownsRow c.heap.size 5 1 (u 7) 80 ((blkS key ver i p).map bval)):=jh ((j 7).2 9 rfl (by decide))
 have h8:u 8=.int .i64 0:=(j 8).1
 have Q:=jh G
 clear j G
 rw[h8]
 generalize u 7=x at*
 go_wp2_with fail
 refine bodyPost_ret (zec rfl _ _) rfl ?_
 exact⟨x,rfl,zce E.o v.o.size,v.o.trans Q.o⟩
theorem rKeyOf_any(r s d k:List UInt8)(ver:Int)(w:World)(M:r.length=32)(J:s.length=32)(C:d.length=32)(m:k.length=32)(I:GlobK w):
  Calls Tryd.prog 19 #[.agg (setC r s d k).toArray,.int .i64 ver] w fun e w'=>e=.returned (.agg ((keyOf k ver).map bval).toArray)∧Below w.heap.size w w':=by
 obtain⟨L,F,v,K,S⟩:=info_parts Tryd.info5
 obtain⟨N,D,z,O⟩:=jq4 F v K S
 clear F v K S
 obtain⟨b,W,G⟩:=jq3 m I (boxes2 w (setC r s d k) (z32.map bval) 43 23)
 go_enter Tryd.func19,Tryd.ntmps19
 go_upto_region 1 with(fail)
 obtain⟨h0,h1,T⟩:=G.o
 change Code.wp _ _ _ _ ((w.alloc (.cells (setC r s d k).toArray 43)).alloc (.cells (z32.map bval).toArray 23))
 generalize (w.alloc (.cells (setC r s d k).toArray 43)).alloc (.cells (z32.map bval).toArray 23)=c at*
 obtain⟨R,y⟩:=nxq (w.heap.size+1)
 rw[←y]at h1⊢
 obtain⟨A,u⟩:=nxq w.heap.size
 rw[←u]at h0⊢
 obtain⟨p,l⟩:=jq2 h0 h1
 have g:Hid (Ext w c):=jh T
 have a0:Hid (w.heap.size=A∧A<R):=jh (by omega)
 clear G T h0 h1 u y
 have x:=jh (row_rng (n:=32) (set_parts p.o M J C).2.2.2 p.o.lt (by rw[q100,m]) (by unfold maxLen;omega))
 have hcut:=fun w=>cut_part (P:=Tryd.prog) Tryd.underlying23 Tryd.sizeOf5 (by omega) A 96 w
 clear M J C m I p
 go_wp2_with (at_builtin;refine zad rfl _ _ 24 rfl c.heap.size 5 L (.int .u8 0) 1 Tryd.underlying24 N.o D.o z.o O.o rfl (.slice none 0 0) 0 [] rfl (World.ownsRow_nil _ _ _ _) rfl x.o (zac _) (by rw[q100,b.o];unfold maxLen;omega) (by rw[q100,b.o];omega) (q101 _) ?_;intro V Z j H)
 have a:=jh (zay (Ext.refl c) (World.ownsRow_nil _ _ 5 _) (q101 _) H)
 rw[q116,q111,q100,b.o]at j
 have f:=jh j
 clear j H x
 refine(rone_any ver Z).mono ?_
 rintro e w3 ⟨ov,rfl,E,i⟩
 obtain⟨f,a,U⟩:=jq3 (zbi f.o i) (a.o.trans i) (Row1.of_own E)
 clear E i
 go_wp2_with (at_builtin;refine zad rfl _ _ 24 rfl c.heap.size 5 L (.int .u8 0) 1 Tryd.underlying24 N.o D.o z.o O.o rfl V 32 _ rfl f.o rfl U.o (zac _) (by rw[q100,zcc];unfold maxLen;omega) (by rw[q100,zcc];omega) a.o.size ?_;intro Y X h Q)
 have a:=jh (zay a.o f.o (q101 _) Q)
 rw[←q104]at h
 have t:=jh (zdm Y (k++zbh ver) X (Row1.of_own h) (by rw[q102,b.o,zcc];decide) (W.o.ext (g.o.trans a.o)))
 rw[keyOf_is]at t
 clear h Q
 refine t.o.mono ?_
 rintro e w5 ⟨rfl,q⟩
 obtain⟨l,g,B⟩:=jq3 (zal l.o (a.o.trans q)) (g.o.trans (a.o.trans q)) (zag (keyOf_length k ver))
 clear q t hcut
 go_wp2_with (refine ssb R ((keyOf k ver).map bval) l.o (by rw[q100,q100,keyOf_length,zbk]) B.o (zac _) ?_;intro w9 a1 a2)
 refine bodyPost_ret (zat rfl _ R _ _ _ _ rfl a1 Tryd.underlying23 B.o) rfl ?_
 exact⟨rfl,zab g.o a2 (by have:=a0.o;omega)⟩
section
theorem rhalf_any(n:Nat)(w:World)(h2:2≤n)(q:n≤1152921504606846976):
  Calls Tryd.prog 47 #[.int .i64 (n:Int)] w fun e f=>e=.returned (.int .i64 ((merK n:Nat):Int))∧w=f:=by
 have l:(0:Int)≤(n:Int):=Int.natCast_nonneg _
 go_enter Tryd.func47,Tryd.ntmps47
 go_wp2_with fail
 go_loop [3] (fun c=>∃(j k:Nat),k=2^j∧k<n∧c=.int .i64 (k:Int)) (fun c=>n - (intOf c).toNat)
 case atStart=>exact⟨0,1,rfl,by omega,rfl⟩
 case round=>
  obtain⟨j,k,b,r,rfl⟩:=hrel
  have a:=jh b
  have p:(0:Int)≤(k:Int):=Int.natCast_nonneg _
  have m:2*(k:Int)≤2305843009213693952:=by omega
  have d:Hid (0<k):=jh (by rw[b];exact Nat.pow_pos (by omega))
  clear b
  by_cases h:2*k<n
  ·have g:2*(k:Int)<(n:Int):=by omega
   go_wp2_with fail
   go_round
   case rel=>exact⟨j+1,2*k,by rw[a.o,q119,q120],h,by go_num⟩
   case measure=>
    have:=d.o
    simp[intOf]
    omega
  have g:¬2*(k:Int)<(n:Int):=by omega
  have i:Hid (merK n=k):=jh (by rw[a.o];exact merK_of h2 (by have:=a.o;omega) (by have:=a.o;omega))
  go_wp2_with fail
  go_ret
  exact⟨by rw[i.o];rfl,rfl⟩
section
variable {P:Program} {w:World}
theorem rowB_upto {t e:TypeId}(ht:P.underlying t=some (.slice e))(n:∀w,(sizeOf e).run P w=.ok 1 w) {v:Value} {d:List (List UInt8)}(h:RowB w v d)(k:Nat)(r:k≤d.length):
  ∃b,RowB w b (d.take k)∧∀f,(Instr.sliceAt t v none (some (.int .i64 (k:Int))) none).run P f=.ok b f:=by
 obtain⟨m,p,q,g⟩:=h
 obtain⟨b,h1,h2⟩:=row_upto ht n p k (by omega)
 refine⟨b,⟨m.take k,h1,by rw[q106,q106,q],fun i x l a c=>?_⟩,h2⟩
 rw[List.getElem?_take]at a c
 split at a
 ·rename_i j
  rw[if_pos j]at c
  exact g i x l a c
 cases a
theorem rowB_cut {t e:TypeId}(ht:P.underlying t=some (.slice e))(m:∀w,(sizeOf e).run P w=.ok 1 w) {v:Value} {b:List (List UInt8)}(h:RowB w v b)(k:Nat)(q:k≤b.length):
  ∃a,RowB w a (b.drop k)∧∀d,(Instr.sliceAt t v (some (.int .i64 (k:Int))) none none).run P d=.ok a d:=by
 obtain⟨j,n,p,g⟩:=h
 obtain⟨a,h1,h2⟩:=row_cut ht m n k (by omega)
 refine⟨a,⟨j.drop k,h1,by rw[q113,q113,p],fun i x l f c=>?_⟩,h2⟩
 rw[List.getElem?_drop]at f c
 exact g _ x l f c
theorem mer_form {v:Value} {c:List (List UInt8)}(h:RowB w v c):∃a b,v=.slice a c.length b∧c.length≤b∧b≤maxLen:=by
 obtain⟨f,⟨a,b,d,h1,h2,_⟩,e,_⟩:=h
 rw[e]at d h1
 exact⟨a,b,d,h1,h2⟩
theorem rowB_elem {a:Option Addr} {n s:Nat} {c:List (List UInt8)}(h:RowB w (.slice a n s) c)(v:0<c.length):∃b off,a=some ⟨b,off,none⟩∧∀i,i<c.length→∃d c2,w.cell? ⟨b,off+i,none⟩=some (.slice d (c.getD i []).length c2)∧Row1 w (.slice d (c.getD i []).length c2) ((c.getD i []).map bval):=by
 obtain⟨j,⟨a',y,r,h1,h2,x,t⟩,u,k⟩:=h
 injection r with e1 e2 e3
 subst e1
 obtain⟨b,off,q,z,m⟩:=t (by rintro rfl;simp at u;omega)
 refine⟨b,off,q,fun i p=>?_⟩
 have e:j[i]? =some (j[i]'(by omega)):=List.getElem?_eq_getElem (by omega)
 have l:c[i]? =some (c.getD i []):=by rw[List.getD_eq_getElem?_getD,List.getElem?_eq_getElem p];rfl
 have f:=k i _ _ e l
 obtain⟨d,c2,g,_⟩:=id f
 rw[q100]at g
 rw[g]at f e
 exact⟨d,c2,by rw[m i (by omega),e],f⟩
end
def RootSaid(n:Nat):Prop:=∀(ls:List (List UInt8)) (v:Value) (w:World),ls.length=n→(∀l∈ls,l.length≤1000000000)→ls.length≤1152921504606846976→RowB w v ls→GlobK w→
  Calls Tryd.prog 26 #[v] w fun e w'=>e=.returned (.agg ((merR ls).map bval).toArray)∧Below w.heap.size w w'
theorem rRoot_step(n:Nat)(ih:∀k,k<n→RootSaid k):RootSaid n:=by
 intro c v w hn au b6 hv hG
 have ag:=jh b6
 obtain⟨i0,hi,am,ay,b8⟩:=info_parts Tryd.info5
 obtain⟨a4,a0,G,a8,a9,I⟩:=jq6 hi am ay b8 ih hG
 obtain⟨a5,HN⟩:=jq2 au hn
 obtain⟨a,bp,rfl,r1,r2⟩:=mer_form hv
 unfold maxLen at r2
 obtain⟨b0,p,y⟩:=jq3 hv (Blk.made w (ints .u8 (List.replicate 32 0)) 23) (Ext.alloc w (.cells (ints .u8 (List.replicate 32 0)).toArray 23))
 have a7:Hid ((merR c).length=32):=jh (merR_length c)
 have J:=jh (zag a7.o)
 have af:Hid (((merR c).map bval).length=(ints .u8 (List.replicate 32 0)).length):=jh (by rw[q100,a7.o,zaa,q110])
 have l0:(0:Int)≤(c.length:Int):=Int.natCast_nonneg _
 clear ih hG au b6 hn hv hi am ay b8
 go_enter Tryd.func26,Tryd.ntmps26
 go_upto_region 1 with(fail)
 change Code.wp _ _ _ _ (w.alloc (.cells (ints .u8 (List.replicate 32 0)).toArray 23))
 generalize w.alloc (.cells (ints .u8 (List.replicate 32 0)).toArray 23)=i at*
 obtain⟨A,hA⟩:=nxq w.heap.size
 have ab:Hid (w.heap.size≤A):=jh (by omega)
 rw[←hA]at p⊢
 have HV:=jh (b0.o.below y.o)
 clear hA b0
 by_cases h0:c.length=0
 ·have bh:(c.length:Int)=0:=by omega
  have HQ:Hid (sha256 []=merR c):=jh (merR_nil h0).symm
  go_wp2_with fail
  refine(zdm (.slice none 0 0) [] i (Row1.nil i) (by decide) (I.o.ext y.o)).mono ?_
  rintro e E ⟨rfl,f⟩
  rw[HQ.o]
  have ah:=xxb p f
  have ae:=xxt y f
  clear f
  go_wp2_with (refine ssb A ((merR c).map bval) ah.o af.o J.o (zac _) ?_;intro bk a6 ac)
  refine bodyPost_ret (zat rfl _ A _ _ _ _ rfl a6 Tryd.underlying23 J.o) rfl ⟨rfl,zab ae.o ac ab.o⟩
 have bh:¬(c.length:Int)=0:=by omega
 by_cases h1:c.length=1
 ·have bd:(c.length:Int)=1:=by omega
  have br:(0:Int)<(c.length:Int):=by omega
  obtain⟨b,off,rfl,ak⟩:=rowB_elem HV.o (by omega)
  obtain⟨a2,c2,hc,hr⟩:=ak 0 (by omega)
  have HQ:Hid (sha256 (0::c.getD 0 [])=merR c):=jh (by
   rw[merR_one' h1]
   cases c with
   |nil=>simp at h1
   |cons x t=>rfl)
  have ad:Hid ((c.getD 0 []).length≤1000000000):=jh (a5.o _ (by
   rw[List.getD_eq_getElem?_getD,List.getElem?_eq_getElem (by omega)]
   exact List.getElem_mem _))
  generalize c.getD 0 []=x at*
  rw[Nat.add_zero]at hc
  have q:=jh (Ext.alloc i (.cells #[.int .u8 0] 5))
  have bq:(i.alloc (.cells #[.int .u8 0] 5)).cell? ⟨b,off,none⟩=some (.slice a2 x.length c2):=(q.o.cell (q135 i _ hc)).trans hc
  have HR:=jh (hr.below q.o)
  have HO:=jh (own_made i #[.int .u8 0] i.heap.size 5 1 (([0]:List UInt8).map bval) rfl rfl (by unfold maxLen;omega) (q101 _))
  have bc:=jh (q.o.size)
  clear hc hr ak
  go_wp2_with (at_builtin;refine zad rfl _ _ 24 rfl i.heap.size 5 i0 (.int .u8 0) 1 Tryd.underlying24 a4.o a0.o G.o a8.o rfl _ _ _ rfl HO.o rfl HR.o (zac _) (by have:=ad.o;rw[q100];unfold maxLen;omega) (by have:=ad.o;rw[q100];omega) bc.o ?_;intro v4 d b2 b3)
  have ai:=jh (zay q.o HO.o (q101 _) b3)
  have bb:Hid (Row1 d v4 ((0::x).map bval)):=jh (by have h:=Row1.of_own b2;simpa using h)
  clear b2 b3 HO HR bq
  refine(zdm v4 (0::x) d bb.o (by have:=ad.o;rw[q103];omega) (I.o.ext (y.o.trans ai.o))).mono ?_
  rintro e E ⟨rfl,f⟩
  rw[HQ.o]
  obtain⟨ah,ae⟩:=jq2 (zal p.o (ai.o.trans f)) (y.o.trans (ai.o.trans f))
  clear f
  go_wp2_with (refine ssb A ((merR c).map bval) ah.o af.o J.o (zac _) ?_;intro bk a6 ac)
  refine bodyPost_ret (zat rfl _ A _ _ _ _ rfl a6 Tryd.underlying23 J.o) rfl ⟨rfl,zab ae.o ac ab.o⟩
 have bd:¬(c.length:Int)=1:=by omega
 have h2:2≤c.length:=by omega
 obtain⟨u,aq,HM⟩:=jq3 (merK_lt h2) (merK_pos c.length) (merR_two h2)
 have HH:=jh (fun C=>rhalf_any c.length C h2 ag.o)
 obtain⟨k,hk⟩:=nxq (merK c.length)
 rw[←hk]at u aq HM HH
 clear hk
 have k0:(0:Int)≤(k:Int):=Int.natCast_nonneg _
 have k1:(k:Int)≤(c.length:Int):=by have:=u.o;omega
 have k2:(k:Int)≤(bp:Int):=by have:=u.o;omega
 obtain⟨v1,aj,bm⟩:=rowB_upto Tryd.underlying40 Tryd.sizeOf24 HV.o k (by have:=u.o;omega)
 obtain⟨L,aa,bn⟩:=rowB_cut Tryd.underlying40 Tryd.sizeOf24 HV.o k (by have:=u.o;omega)
 obtain⟨a1,c1,rfl,_⟩:=mer_form aj
 obtain⟨a2,c2,rfl,_⟩:=mer_form aa
 obtain⟨aw,an⟩:=jq2 aj aa
 have b5:Hid (∀m,Ext i m→Calls Tryd.prog 26 #[.slice a1 (c.take k).length c1] m fun e C=>e=.returned (.agg ((merR (c.take k)).map bval).toArray)∧Below m.heap.size m C):=jh (fun m N=>by
  have M:(c.take k).length=k:=by rw[q106];have:=u.o;omega
  exact a9.o k (by have:=u.o;have:=HN.o;omega) (c.take k) _ m M (fun l hl=>a5.o l (List.mem_of_mem_take hl)) (by rw[M];have:=u.o;have:=ag.o;omega) (aw.o.below N) (I.o.ext (y.o.trans N)))
 have ax:Hid (∀m,Ext i m→Calls Tryd.prog 26 #[.slice a2 (c.drop k).length c2] m fun e C=>e=.returned (.agg ((merR (c.drop k)).map bval).toArray)∧Below m.heap.size m C):=jh (fun m N=>by
  have M:(c.drop k).length=c.length - k:=by rw[q113]
  exact a9.o (c.length - k) (by have:=aq.o;have:=u.o;have:=HN.o;omega) (c.drop k) _ m M (fun l hl=>a5.o l (List.mem_of_mem_drop hl)) (by rw[M];have:=ag.o;omega) (an.o.below N) (I.o.ext (y.o.trans N)))
 have B:Hid ((merR (c.take k)).length=32):=jh (merR_length _)
 have D:Hid ((merR (c.drop k)).length=32):=jh (merR_length _)
 generalize merR (c.take k)=g at*
 generalize merR (c.drop k)=r at*
 generalize (c.take k).length=n1 at*
 generalize (c.drop k).length=n2 at*
 have bj:Hid (merR c=sha256 (1::(g++r))):=jh HM.o
 obtain⟨bf,be⟩:=jq2 (zag B.o) (zag D.o)
 have bg:Hid ((g.map bval).length=(ints .u8 (List.replicate 32 0)).length):=jh (by rw[q100,B.o,zaa,q110])
 have bl:Hid ((r.map bval).length=(ints .u8 (List.replicate 32 0)).length):=jh (by rw[q100,D.o,zaa,q110])
 clear aj aa HM a7 J af
 have s:Hid (Ext w i):=y
 go_wp2_with fail
 refine(HH.o i).mono ?_
 rintro e C ⟨rfl,rfl⟩
 go_wp2_with fail
 refine(b5.o i (Ext.refl _)).mono ?_
 rintro e E ⟨rfl,f⟩
 have Z:Hid (Ext i E):=jh f
 have p:=xxb p f
 have s:=xxt s f
 obtain⟨Q,q⟩:=jq2 (Blk.made E (ints .u8 (List.replicate 32 0)) 23) (Ext.alloc E (.cells (ints .u8 (List.replicate 32 0)).toArray 23))
 clear f
 go_upto_region 8 with(refine ssb E.heap.size (g.map bval) Q.o bg.o bf.o (zac _) ?_;intro w2 al a3)
 have z:=jh (zab q.o a3 (q101 _))
 have p:=xxb p z.o
 have s:=xxt s z.o
 obtain⟨Z,O⟩:=jq2 (Z.o.trans z.o) al
 generalize E.heap.size=B4 at*
 clear al a3 Q q z HH b5
 go_wp2_with fail
 refine(ax.o w2 Z.o).mono ?_
 rintro e w3 ⟨rfl,f⟩
 obtain⟨p,O⟩:=xq2 p O f
 have s:=xxt s f
 obtain⟨Q,q⟩:=jq2 (Blk.made w3 (ints .u8 (List.replicate 32 0)) 23) (Ext.alloc w3 (.cells (ints .u8 (List.replicate 32 0)).toArray 23))
 clear f Z
 go_upto_region 9 with(refine ssb w3.heap.size (r.map bval) Q.o bl.o be.o (zac _) ?_;intro d ar ap)
 have z:=jh (zab q.o ap (q101 _))
 obtain⟨p,O⟩:=xq2 p O z.o
 have s:=xxt s z.o
 have H5:=jh ar
 generalize w3.heap.size=B5 at*
 clear ar ap Q q z ax aw an bm bn y a9
 have B0:Ext d d.drew:=Ext.drew _
 refine wp_region_held_drew (S:=fun C=>Far (A) d C) (by kernel_rfl) (zao B0) (fun F=>?_)
 refine tke 1 (.slice (some ⟨B4,0,none⟩) 32 32) rfl (zcd _ _ _ _ (.pointer (some ⟨B4,0,none⟩)) (.slice (some ⟨B4,0,none⟩) 32 32) none none (by rfl) rfl rfl rfl rfl (fun w=>zct Tryd.underlying23 Tryd.sizeOf5 (by omega) _ w)) F ?_
 simp only[nm]
 refine tke 3 (.slice (some ⟨B5,0,none⟩) 32 32) rfl (zcd _ _ _ _ (.pointer (some ⟨B5,0,none⟩)) (.slice (some ⟨B5,0,none⟩) 32 32) none none (by rfl) rfl rfl rfl rfl (fun w=>zct Tryd.underlying23 Tryd.sizeOf5 (by omega) _ w)) F ?_
 simp only[nm]
 refine rdy 0 rfl fun K j=>?_
 refine zan (by rfl) ?_
 refine zbj (some 30) _ _ _ _ rfl rfl #[.int .u8 1] i0 (.int .u8 0) Tryd.underlying24 a4.o a0.o (by rw[G.o];decide) (by rw[G.o];decide) (by rw[G.o];kernel_rfl) ?_
 obtain⟨U,H⟩:=nxq (World.alloc d.drew (.cells #[.int .u8 1] 5))
 rw[←H]
 have b1:Ext d.drew U:=by rw[H];exact Ext.alloc _ _
 obtain⟨g1,T⟩:=nxq ((d.drew).heap.size)
 rw[←T]
 have r1:Row1 U (.slice (some ⟨g1,0,none⟩) 1 1) (([1]:List UInt8).map bval):=by rw[H,T];exact Row1.made _ _ _ _ _ _ rfl rfl rfl (by unfold maxLen;omega)
 have o1:World.ownsRow U (d).heap.size 5 1 (.slice (some ⟨g1,0,none⟩) 1 1) 1 (([1]:List UInt8).map bval):=by rw[H,T];exact own_made _ _ _ _ _ _ rfl rfl (by unfold maxLen;omega) B0.size
 clear H T
 have R:Ext d U:=B0.trans b1
 refine j.o _ _ (zao R) (fun F=>?_)
 clear j K
 try simp only[nm]
 refine rdy 2 rfl fun K j=>?_
 refine zan (by rfl) ?_
 refine zbe _ _ 24 rfl (d).heap.size 5 i0 (.int .u8 0) 1 Tryd.underlying24 a4.o a0.o G.o a8.o rfl (.slice (some ⟨g1,0,none⟩) 1 1) 1 _ rfl o1 rfl ((zbv (n:=32) O.o (by rw[q100];exact B.o) (by unfold maxLen;omega)).below R) (zac _) (by simp only[q100,q103,q115,B.o,D.o];unfold maxLen;omega) (by simp only[q100,q103,q115,B.o,D.o];omega) R.size ?_
 intro L X av a3
 have Y:Ext d X:=zay R o1 (q101 _) a3
 have r2:Row1 X L ((([1]++g)).map bval):=by have h:=Row1.of_own av;simpa using h
 have o2:World.ownsRow X (d).heap.size 5 1 L ((1::g).length) ((1::g).map bval):=zcn av (by rw[q100,q103];omega) (by rfl)
 have r2:Row1 X L ((1::g).map bval):=Row1.of_own o2
 refine j.o _ _ (zao Y) (fun F=>?_)
 clear j K
 try simp only[nm]
 refine rdy 4 rfl fun K j=>?_
 refine zan (by rfl) ?_
 refine zbe _ _ 24 rfl (d).heap.size 5 i0 (.int .u8 0) 1 Tryd.underlying24 a4.o a0.o G.o a8.o rfl (L) (1::g).length _ rfl o2 rfl ((zbv (n:=32) H5.o (by rw[q100];exact D.o) (by unfold maxLen;omega)).below Y) (zac _) (by simp only[q100,q103,q115,B.o,D.o];unfold maxLen;omega) (by simp only[q100,q103,q115,B.o,D.o];omega) Y.size ?_
 intro v3 P az bo
 have N3:Ext d P:=zay Y o2 (q101 _) bo
 have W:Row1 P v3 (((1::g++r)).map bval):=by have h:=Row1.of_own az;simpa using h
 have o3:World.ownsRow P (d).heap.size 5 1 v3 ((1::(g++r)).length) ((1::(g++r)).map bval):=zcn az (by rw[q100,q103,q103,q102];omega) (by simp)
 have W:Row1 P v3 ((1::(g++r)).map bval):=Row1.of_own o3
 refine j.o _ _ (zao N3) (fun F=>?_)
 clear j K
 try simp only[nm]
 refine rdy 5 rfl fun K j=>?_
 go_simp
 refine(zdm _ (1::(g++r)) P W (by rw[q103,q102];have:=B.o;have:=D.o;omega) (I.o.ext (s.o.trans N3))).mono ?_
 rintro e m4 ⟨rfl,b4⟩
 have W:=W.below b4
 have o3:=zbi o3 b4
 have V:Ext d m4:=N3.trans b4
 refine j.o _ _ (zao V) (fun F=>?_)
 clear j K
 try simp only[nm]
 refine rdy 6 rfl fun K j=>?_
 refine zan (by rfl) ?_
 refine zaq _ _ _ rfl (A) ((sha256 (1::(g++r))).map bval) rfl rfl _ _ (zal p.o V) (by rw[q100,zbg,zaa];rfl) (zag ((zbg _))) (zac _) ?_
 intro m5 ba b7
 refine j.o _ _ (zbt V b7) (fun F=>?_)
 clear j K
 try simp only[nm]
 refine dne ?_
 have b9:=ba
 have ao:=zab (s.o.trans V) b7 ab.o
 generalize m5=bs at b9 ao⊢
 have bi:Hid ((Tryd.prog.info? 23).map (·.size)=some ((sha256 (1::(g++r))).map bval).length):=jh (zag (zbg _))
 go_wp2_with fail
 refine bodyPost_ret (zat rfl _ A _ _ _ _ rfl b9 Tryd.underlying23 bi.o) rfl ⟨by rw[bj.o],ao⟩
theorem rRoot_any(a:List (List UInt8))(v:Value)(w:World)(f:∀l∈a,l.length≤1000000000)(g:a.length≤1152921504606846976)(b:RowB w v a)(d:GlobK w):
  Calls Tryd.prog 26 #[v] w fun e c=>e=.returned (.agg ((merR a).map bval).toArray)∧Below w.heap.size w c:=
 Nat.strongRecOn (motive:=RootSaid) a.length rRoot_step a v w rfl f g b d
end
theorem rows_info:∃i:TypeInfo,Tryd.prog.info? 24=some i∧i.zero=some (.slice none 0 0)∧i.size=1∧i.bytes=24:=by
 have h:(Tryd.prog.info? 24).map (fun i=>(i.zero,i.size,i.bytes))=some (some (.slice none 0 0),1,24):=by kernel_rfl
 cases h2:Tryd.prog.info? 24 with
 |none=>rw[h2]at h;cases h
 |some i=>
  rw[h2]at h
  injection h with h
  injection h with e1 e2
  injection e2 with e2 e3
  exact⟨i,rfl,e1,e2,e3⟩
theorem rCut_nil(w:World):Calls Tryd.prog 34 #[.slice none 0 0] w fun e C=>∃x,e=.returned (.tuple #[x,.int .i64 0])∧RowB C x [z64]∧Below w.heap.size w C:=by
 obtain⟨P,s,m,y,B⟩:=info_parts Tryd.info5
 obtain⟨R,M,K,S⟩:=jq4 s m y B
 clear s m y B
 obtain⟨U,q,k,l,D⟩:=rows_info
 obtain⟨J,I,G,H⟩:=jq4 q k l D
 clear q k l D
 have N:(Instr.makeSlice 24 (.int .i64 64) (.int .i64 64)).run Tryd.prog w=.ok (.slice (some ⟨w.heap.size,0,none⟩) 64 64) (w.alloc (.cells ((zB 64).map bval).toArray 5)):=run_make_zeros w _ _ Tryd.underlying24 P R.o M.o K.o S.o 64 (by omega)
 obtain⟨a,b⟩:=jq2 (Blk.made w ((zB 64).map bval) 5) (Ext.alloc w (.cells ((zB 64).map bval).toArray 5))
 go_enter Tryd.func34,Tryd.ntmps34
 go_wp2_with fail
 refine wp_loop_rounds 2 ?_
 rw[rounds_succ]
 go_upto_region 8 with(fail)
 clear N
 generalize w.alloc (.cells ((zB 64).map bval).toArray 5)=d at*
 obtain⟨X,E⟩:=nxq w.heap.size
 have L:Hid (w.heap.size≤X):=jh (by omega)
 rw[←E]at a⊢
 clear E
 have j:Hid (0+([]:List Value).length≤((zB 64).map bval).length):=jh (by simp)
 go_upto_region 9 with(refine wpList_copy_blk rfl (.tmp 21) (.tmp 24) 24 24 rfl 5 Tryd.underlying24 one_u8m (some ⟨X,0,none⟩) none 64 64 0 0 rfl rfl X 0 ((zB 64).map bval) 5 a.o [] rfl (fun h=>absurd h (by simp)) j.o (by intro v T;cases T) ?_;intro O g t)
 rw[splice_nil]at g
 obtain⟨a,b⟩:=jq2 g (zab b.o t L.o)
 clear g t j
 generalize O=d at*
 have p:=jh (zbv (n:=64) a.o (by rw[q100,zB_length]) (by unfold maxLen;omega))
 have A:=jh (Row1.made d #[.slice (some ⟨X,0,none⟩) 64 64] 24 _ 1 [.slice (some ⟨X,0,none⟩) 64 64] rfl rfl rfl (by unfold maxLen;omega))
 have c:=jh (Ext.alloc d (.cells #[.slice (some ⟨X,0,none⟩) 64 64] 24))
 go_wp2_with (at_builtin;refine zad rfl _ _ 40 rfl d.heap.size 24 U (.slice none 0 0) 24 Tryd.underlying40 J.o I.o G.o H.o rfl (.slice none 0 0) 0 [] rfl (World.ownsRow_nil _ _ _ _) rfl A.o (by intro u r;simp at r;subst r;rfl) (by simp[maxLen]) (by simp) c.o.size ?_;intro Q V f z)
 rw[q116]at f
 have i:=jh (zay c.o (World.ownsRow_nil _ _ 24 _) c.o.size z)
 have F:=jh (rowB1 (Row1.of_own f) (p.o.below i.o))
 have b:=xxt b i.o
 clear f z A c p a i
 rw[rounds_succ]
 go_wp2_with fail
 refine bodyPost_ret (zec rfl _ _) rfl ?_
 exact⟨Q,rfl,F.o,b.o⟩
theorem rMake_nil(key:List UInt8)(ver:Int)(w:World)(y:key.length=32)(X:smallB ver=true):
  Calls Tryd.prog 20 #[.agg (key.map bval).toArray,.int .i64 ver,.slice none 0 0] w fun e l=>∃x,e=.returned (.tuple #[x,.int .i64 0])∧RowB l x [blkS key ver 0 z64]∧Below w.heap.size w l:=by
 obtain⟨iq,L,E,F,Z⟩:=rows_info
 obtain⟨a8,a7,a6,a5,a1,a9⟩:=jq6 L E F Z y X
 have a3:=jh (zag y)
 clear L E F Z y X
 have O:=jh (And.intro (Blk.made w (key.map bval) 23) (Ext.alloc w (.cells (key.map bval).toArray 23)))
 go_enter Tryd.func20,Tryd.ntmps20
 go_upto_region 1 with(fail)
 obtain⟨h0,W⟩:=O.o
 change Code.wp _ _ _ _ (w.alloc (.cells (key.map bval).toArray 23))
 generalize w.alloc (.cells (key.map bval).toArray 23)=H at*
 obtain⟨A,G⟩:=nxq w.heap.size
 rw[←G]at h0⊢
 have n:=jh h0
 have f:Hid (Ext w H):=jh W
 have HO:Hid (w.heap.size=A):=jh (by omega)
 clear O W h0 G
 go_wp2_with fail
 refine(rCut_nil H).mono ?_
 rintro e c ⟨lx,rfl,⟨Q,R,U,N⟩,C⟩
 obtain⟨b,ac⟩:∃b,Q=[b]:=by
  match Q,U with
  |[b],_=>exact⟨b,rfl⟩
 subst ac
 have aa:=jh (N 0 b z64 rfl rfl)
 obtain⟨la,Y,ab,_,_,_,a0⟩:=id R
 obtain⟨g,j,a2,_,r⟩:=a0 (by simp)
 subst a2
 subst ab
 have J:Hid (c.cell? ⟨g,j,none⟩=some b):=jh (by have h:=r 0 (by simp);simpa using h)
 have n:=xxb n C
 have f:=xxt f C
 clear R U N C a0 r
 go_wp2_with fail
 refine wp_loop_rounds 2 ?_
 rw[rounds_succ]
 go_upto_region 8 with(fail)
 have p:Ext c c.drew:=Ext.drew _
 refine wp_region_held_drew (S:=fun l=>Ext c l) (by kernel_rfl) p (fun a=>?_)
 refine tke 0 (.agg ((key).map bval).toArray) rfl (sld A 0 (fun w h=>zau n.o h) Tryd.underlying23 a3.o) a ?_
 simp only[nm]
 refine tke 1 (.int .i64 ver) rfl (zba _ (.int .i64 ver) (by rfl) rfl rfl) a ?_
 simp only[nm]
 refine tke 2 (.int .i64 0) rfl (zba _ (.int .i64 0) (by rfl) rfl rfl) a ?_
 simp only[nm]
 refine tke 3 (.slice (some ⟨g,j,none⟩) 1 Y) rfl (zba _ (.slice (some ⟨g,j,none⟩) 1 Y) (by rfl) rfl rfl) a ?_
 simp only[nm]
 refine tke 4 (.int .i64 0) rfl (zba _ (.int .i64 0) (by rfl) rfl rfl) a ?_
 simp only[nm]
 refine tke 5 (.pointer (some ⟨g,j,none⟩)) rfl (zbb (.pointer (some ⟨g,j,none⟩)) (by rfl) (fun w _=>by go_simp)) a ?_
 simp only[nm]
 refine tke 6 b rfl (zbb b (by rfl) (fun w h=>by have r:=(Below.cell h (q135 c _ J.o)).trans J.o;go_simp)) a ?_
 simp only[nm]
 refine rdy 7 rfl fun K i=>?_
 go_simp
 refine(rSealBlock_any key ver 0 z64 b c.drew a1.o a9.o (by decide) (aa.o.below p) zcq).mono ?_
 rintro e I ⟨d,rfl,V,b1⟩
 have t:=jh (Row1.of_own V)
 clear V
 have q:Ext c I:=p.trans b1
 refine i.o _ _ q (fun a=>?_)
 clear i K
 try simp only[nm]
 refine tke 8 (.tuple #[d,.int .i64 0]) rfl (zba _ (.tuple #[d,.int .i64 0]) (by rfl) rfl rfl) a ?_
 simp only[nm]
 refine tke 9 d rfl (zbb (d) (by rfl) (fun w _=>by go_simp)) a ?_
 simp only[nm]
 refine tke 10 (.int .i64 0) rfl (zbb (.int .i64 0) (by rfl) (fun w _=>by go_simp)) a ?_
 simp only[nm]
 refine tke 11 d rfl (yi_assign _ (d) (by rfl) rfl rfl) a ?_
 simp only[nm]
 refine rdy 12 rfl fun K i=>?_
 go_simp
 refine i.o _ _ q (fun a=>?_)
 clear i K
 try simp only[nm]
 refine dne ?_
 have f:=xxt f q
 generalize I=v at*
 generalize d=x at*
 obtain⟨B,s,z,rfl⟩:=row_form t.o
 have T:=jh (Row1.made v #[.slice B s z] 24 _ 1 [.slice B s z] rfl rfl rfl (by unfold maxLen;omega))
 have k:=jh (Ext.alloc v (.cells #[.slice B s z] 24))
 go_wp2_with (at_builtin;refine zad rfl _ _ 40 rfl v.heap.size 24 iq (.slice none 0 0) 24 Tryd.underlying40 a8.o a7.o a6.o a5.o rfl (.slice none 0 0) 0 [] rfl (World.ownsRow_nil _ _ _ _) rfl T.o (by intro u M;simp at M;subst M;rfl) (by simp[maxLen]) (by simp) k.o.size ?_;intro v3 w3 m P)
 rw[q116]at m
 have D:=jh (zay k.o (World.ownsRow_nil _ _ 24 _) k.o.size P)
 have a4:=jh (rowB1 (Row1.of_own m) (t.o.below D.o))
 have f:=xxt f D.o
 clear m P T k t D
 rw[rounds_succ]
 go_wp2_with fail
 refine bodyPost_ret (zec rfl _ _) rfl ?_
 exact⟨v3,rfl,a4.o,f.o⟩
theorem own_far {w a:World} {base:Nat} {e:TypeId} {size n c:Nat} {x:Value} {d:List Value}(h:w.ownsRow base e size x n d)(g:w.grownBy a (some c))(m:∀k,x.ownBlock=some k→k≠c):a.ownsRow base e size x n d:=by
 obtain⟨h1,h2⟩:=h
 refine⟨h1,?_⟩
 rcases h2 with h2|⟨b,i,j,rfl,q,f,p⟩
 ·exact Or.inl h2
 refine Or.inr ⟨b,i,j,rfl,q,?_,p⟩
 have l:b<w.heap.size:=(Array.getElem?_eq_some_iff.1 f).1
 exact(g.block b l (fun e=>m b rfl (Option.some.inj e))).trans f
noncomputable def Man.sgd(seed:List UInt8)(m:Man):Man:=if m.ok=true then { m with sig:=edSign seed m.body } else manZ
theorem Man.pac_yes {m:Man}(h:m.ok=true):m.pacL=m.pack:=if_pos h
theorem Man.pac_no {m:Man}(h:m.ok=false):m.err=1∧m.pacL=[]∧m.bodL=[]:=⟨if_neg (by rw[h];simp),if_neg (by rw[h];simp),if_neg (by rw[h];simp)⟩
section
section
variable {P:Program} {ops:Array Oper} {Q:Exit→Act→World→Prop}
theorem wpList_load_a {rest:List Oper} {b:Oper} {a:Act} {w:World}(h:Region.wanted b (yielded ops a.tmps)=true)(f:TypeId)(x:Operand)(m:b.op=.load f x)
  (c o:Nat) (i:a.eval x=.pointer (some ⟨c,o,none⟩)) (d:List Value) (n:Nat) (e:TypeId) (l:w.rangeAt c o d)
  (g:P.underlying f=some (.array n e)) (j:(P.info? f).map (·.size)=some d.length)
  (next:wpList P ops Q rest (a.put b.dst (.agg d.toArray)) w):wpList P ops Q (b::rest) a w:=by
 refine wpList_step fun K k=>?_
 rw[if_pos h]
 exact wp_load_mid f x m c o i d _ l g rfl j (k _ _ next)
theorem zdz {rest:List Oper} {b:Oper} {a:Act} {w:World}(g:Region.wanted b (yielded ops a.tmps)=true)(e:TypeId)(x:Operand)(m:b.op=.load e x)
  (c o:Nat) (h:a.eval x=.pointer (some ⟨c,o,none⟩)) (d:List Value) (k:Array Field) (l:w.rangeAt c o d)
  (f:P.underlying e=some (.struct k)) (i:(P.info? e).map (·.size)=some d.length)
  (next:wpList P ops Q rest (a.put b.dst (.agg d.toArray)) w):wpList P ops Q (b::rest) a w:=by
 refine wpList_step fun K j=>?_
 rw[if_pos g]
 exact wp_load_mid e x m c o h d _ l f rfl i (j _ _ next)
end
end
section
section
variable {P:Program}
theorem part_i64 {t:TypeId} {id:Int} {r:List Value}(w:World)(ht:P.underlying t=some (.int .i64))(a:P.cellsOf t=1):(part t (Value.int .i64 id::r).toArray 0).run P w=.ok (.int .i64 id) w:=by
 simp[part,isAgg,run_underlying ht]
theorem part_arr {t e:TypeId} {n o:Nat} {i:TypeInfo} {pre post:List Value} {l:List UInt8}(w:World)(ht:P.underlying t=some (.array n e))(d:P.info? t=some i)(c:i.size=n)(b:l.length=n)(a:pre.length=o):
  (part t (pre++(l.map bval++post)).toArray o).run P w=.ok (.agg (l.map bval).toArray) w:=by
 have g:((pre++(l.map bval++post)).toArray.extract o (o+n))=(l.map bval).toArray:=by
  subst a
  subst b
  simp[List.extract_eq_take_drop]
 have f:(typeInfo t).run P w=.ok i w:=by simp[typeInfo,d]
 simp[part,isAgg,run_underlying ht,sizeOf,f,c]
 try (subst a;subst b;simp)
theorem eqIn_bytes {f e:TypeId} {n:Nat} {i:TypeInfo}(d:Nat)(g:P.underlying f=some (.array n e))(q:P.underlying e=some (.int .u8))(c:P.info? e=some i)(p:P.cellsOf e=1)(b a:List UInt8)(s:b.length=n)(t:a.length=n)(w:World):
  (Op.equalIn (d+2) f (.agg (b.map bval).toArray) (.agg (a.map bval).toArray)).run P w=.ok (decide (b=a)) w:=by
 have h1:=run_equalIn_array (P:=P) w (d+1) (b.map bval).toArray (a.map bval).toArray g c
 rw[p,run_eqItems_bytes q c d b a w (List.range n) (fun j l=>by have:=List.mem_range.1 l;omega)]at h1
 refine Eq.trans h1 ?_
 congr 1
 rw[Bool.eq_iff_iff,List.all_eq_true,decide_eq_true_iff]
 constructor
 ·intro h
  apply List.ext_getElem (by omega)
  intro k r m
  have:=h k (List.mem_range.2 (by omega))
  simpa[List.getD,r,m]using this
 rintro rfl j _
 simp
variable {t e:TypeId} {f0 f1 f2:Field} {i1 i2 ie:TypeInfo} {a b:Int} {ka kb sa sb:List UInt8}
theorem equal_cert(ht:P.underlying t=some (.struct #[f0,f1,f2]))(K:P.stoodInHeld t=false)(y:f0.name≠ "_")(I:f1.name≠ "_")(H:f2.name≠ "_")(h0:P.underlying f0.type=some (.int .i64))(E:f0.offset=0)(G:P.cellsOf f0.type=1)
  (h1:P.underlying f1.type=some (.array 32 e)) (M:f1.offset=1) (F:P.info? f1.type=some i1) (z1:i1.size=32) (h2:P.underlying f2.type=some (.array 64 e)) (D:f2.offset=33) (L:P.info? f2.type=some i2) (z2:i2.size=64)
  (u:P.underlying e=some (.int .u8)) (v:P.info? e=some ie) (q:P.cellsOf e=1) (g:ka.length=32) (d:kb.length=32)
  (m:sa.length=64) (n:sb.length=64) (w:World):(Op.equalIn 10000 t (.agg (certC a ka sa).toArray) (.agg (certC b kb sb).toArray)).run P w=.ok (decide (a=b∧ka=kb∧sa=sb)) w:=by
 have r:P.fieldsOf t=#[f0,f1,f2]:=by unfold Program.fieldsOf;rw[ht]
 have A:∀(id:Int) (k s:List UInt8) (w:World),(part f0.type (certC id k s).toArray f0.offset).run P w=.ok (.int .i64 id) w:=fun id k s w=>by rw[E];exact part_i64 w h0 G
 have p:∀(id:Int) (k s:List UInt8) (w:World),k.length=32→(part f1.type (certC id k s).toArray f1.offset).run P w=.ok (.agg (k.map bval).toArray) w:=fun id k s w f=>by
  rw[M]
  exact part_arr (P:=P) (pre:=[.int .i64 id]) (post:=s.map bval) (l:=k) w h1 F z1 f rfl
 have x:∀(id:Int) (k s:List UInt8) (w:World),k.length=32→s.length=64→(part f2.type (certC id k s).toArray f2.offset).run P w=.ok (.agg (s.map bval).toArray) w:=fun id k s w f J=>by
  rw[D]
  have h:=part_arr (P:=P) (pre:=.int .i64 id::k.map bval) (post:=[]) (l:=s) (o:=33) w h2 L z2 J (by rw[q103,q100,f])
  rw[q123]at h
  exact h
 rw[show 10000=9999+1 from rfl,run_equalIn_struct w 9999 t _ _ (by rw[r];exact ht) K,r]
 have C:=run_equalIn_int (P:=P) w 9998 f0.type .i64 .i64 a b h0
 have z:=eqIn_bytes (P:=P) 9997 h1 u v q ka kb g d w
 have B:=eqIn_bytes (P:=P) 9997 h2 u v q sa sb m n w
 simp only[Op.eqFields,y,I,H,ne_eq,not_false_eq_true,if_true,Sem.run_bind,A,p _ _ _ _ g,p _ _ _ _ d,x _ _ _ _ g m,x _ _ _ _ d n,C,z,B,Result.andThen_ok,Sem.run_ite,Sem.run_pure]
 by_cases c:a=b
 ·by_cases i:ka=kb
  ·by_cases j:sa=sb
   ·simp[c,i,j]
   simp[c,i,j]
  simp[c,i]
 simp[c]
end
end
theorem sig_info16:∃i:TypeInfo,Tryd.prog.info? 26=some i∧i.size=64:=by
 have h:(Tryd.prog.info? 26).map (·.size)=some 64:=by kernel_rfl
 cases h2:Tryd.prog.info? 26 with
 |none=>rw[h2]at h;cases h
 |some i=>rw[h2]at h;exact⟨i,rfl,Option.some.inj h⟩
theorem num_info16:∃i:TypeInfo,Tryd.prog.info? 23=some i∧i.size=32:=by
 have h:(Tryd.prog.info? 23).map (·.size)=some 32:=by kernel_rfl
 cases h2:Tryd.prog.info? 23 with
 |none=>rw[h2]at h;cases h
 |some i=>rw[h2]at h;exact⟨i,rfl,Option.some.inj h⟩
theorem cert_guard:Tryd.prog.eqGuardType Tryd.prog.depth 28=false:=by kernel_rfl
theorem cert_eq {a b:Int} {c e d f:List UInt8} {r:Bool}(n:c.length=32)(m:e.length=32)(k:d.length=64)(l:f.length=64)(q:decide (a=b∧c=e∧d=f)=r)(w:World):(Op.equalIn 10000 28 (.agg (certC a c d).toArray) (.agg (certC b e f).toArray)).run Tryd.prog w=.ok r w:=by
 obtain⟨i,p,g⟩:=sig_info16
 obtain⟨j,h,s⟩:=num_info16
 rw[←q]
 exact equal_cert (t:=28) Tryd.underlying28 (by kernel_rfl) (by decide) (by decide) (by decide) Tryd.underlying3 rfl (by kernel_rfl) Tryd.underlying23 rfl h s Tryd.underlying26 rfl p g Tryd.underlying5 zdn zda n m k l w
section
section
variable {P:Program} {ops:Array Oper} {Q:Exit→Act→World→Prop}
theorem wpList_eqs {rest:List Oper} {o:Oper} {a:Act} {w:World}(f:Region.wanted o (yielded ops a.tmps)=true)(b e:TypeId)(x y:Operand)(d c:Array Value)(r:Bool)(j:∀w,(Op.equalIn 10000 b (.agg d) (.agg c)).run P w=.ok r w)(h:P.eqGuardType P.depth b=false)(k:o.op=.binOp .eql b x y e)
  (g:a.eval x=.agg d) (l:a.eval y=.agg c) (next:wpList P ops Q rest (a.put o.dst (.bool r)) w):wpList P ops Q (o::rest) a w:=by
 refine wpList_step fun K i=>?_
 rw[if_pos f]
 have h1:(Op.equal b (.agg d) (.agg c)).run P w=.ok r w:=j w
 unfold Oper.wp execOp
 simp only[k,g,l]
 simp[eqGuard,h,binOp,h1]
 exact i _ _ next
end
end
theorem rPackManifest_any(m:Man)(wv:Value)(w:World)(a:m.Arr)(j:Row1 w wv (m.wr.map bval)):
  Calls Tryd.prog 5 #[.agg (manC m wv).toArray] w fun e z=>∃x,e=.returned (.tuple #[x,.int .i64 m.err])∧z.ownsRow w.heap.size 5 1 x m.pacL.length (m.pacL.map bval)∧Below w.heap.size w z:=by
 obtain⟨G,t,r,v,y⟩:=info_parts Tryd.info5
 obtain⟨H,E,B,I⟩:=jq4 t r v y
 clear t r v y
 obtain⟨b,k,u⟩:=jq3 a j (And.intro (Blk.made w (manC m wv) 30) (Ext.alloc w (.cells (manC m wv).toArray 30)))
 go_enter Tryd.func5,Tryd.ntmps5
 go_upto_region 1 with(fail)
 obtain⟨h0,A⟩:=u.o
 change Code.wp _ _ _ _ (w.alloc (.cells (manC m wv).toArray 30))
 generalize w.alloc (.cells (manC m wv).toArray 30)=q at*
 obtain⟨M,s⟩:=nxq w.heap.size
 rw[←s]at h0⊢
 have g:=jh h0
 have c:Hid (Ext w q):=jh A
 have Q:Hid (w.heap.size=M):=jh (by omega)
 clear u A h0 s
 obtain⟨L,l⟩:=jq2 (zdc a wv) (rBody_any m wv q b.o (k.o.below c.o))
 go_wp2_with (refine wpList_load_mid rfl _ _ rfl M 0 rfl _ _ g.o.range Tryd.underlying30 rfl L.o ?_)
 refine l.o.mono ?_
 rintro e N ⟨x,rfl,p,i⟩
 have h:=jh (zce p c.o.size)
 have g:=xxb g i
 have c:=xxt c i
 clear p i l a j k
 cases hok:m.ok with
 |false=>
  have f:=jh (Man.pac_no hok)
  have d:=f.o.1
  rw[d]
  clear d
  go_wp2_with fail
  refine bodyPost_ret (zec rfl _ _) rfl ?_
  exact⟨_,by rw[f.o.1];rfl,by rw[f.o.2.1];exact World.ownsRow_nil _ _ _ _,c.o⟩
 |true=>
  have f:=jh (Man.pac_yes hok)
  obtain⟨d,J⟩:=Man.yes hok
  have D:=jh d
  rw[d]
  clear d
  rw[J,Man.body_length b.o (Man.ok_all hok).2.2.2.1]at h
  have K:=jh (row_rng (n:=64) (man_parts g.o b.o).2.2.2.2.2.2.2.2 g.o.lt (by rw[q100,b.o.sig]) (by unfold maxLen;omega))
  have hcut:=fun w=>cut_part (P:=Tryd.prog) Tryd.underlying26 Tryd.sizeOf5 (by omega) M 132 w
  go_wp2_with (at_builtin;refine zad rfl _ _ 24 rfl w.heap.size 5 G (.int .u8 0) 1 Tryd.underlying24 H.o E.o B.o I.o rfl x 236 _ rfl h.o rfl K.o (zac _) (by rw[q100,b.o.sig];unfold maxLen;omega) (by rw[q100,b.o.sig];omega) c.o.size ?_;intro O R C F)
  refine bodyPost_ret (zec rfl _ _) rfl ?_
  exact⟨_,by rw[D.o];rfl,zcn C (by rw[f.o,Man.pack_length b.o (Man.ok_all hok).2.2.2.1,q100,b.o.sig]) (by rw[f.o];unfold Man.pack;rw[q104]),zay c.o h.o (q101 _) F⟩
theorem rSame_self(m:Man)(d f:Value)(w:World)(a:m.Arr)(h:Row1 w d (m.wr.map bval))(E:Row1 w f (m.wr.map bval)):
  Calls Tryd.prog 8 #[.agg (manC m d).toArray,.agg (manC m f).toArray] w fun e Q=>e=.returned (.bool true)∧Below w.heap.size w Q:=by
 obtain⟨c,i,k,x⟩:=jq4 a h E (boxes2 w (manC m d) (manC m f) 30 30)
 go_enter Tryd.func8,Tryd.ntmps8
 go_upto_region 1 with(fail)
 obtain⟨h0,h1,D⟩:=x.o
 change Code.wp _ _ _ _ ((w.alloc (.cells (manC m d).toArray 30)).alloc (.cells (manC m f).toArray 30))
 generalize (w.alloc (.cells (manC m d).toArray 30)).alloc (.cells (manC m f).toArray 30)=I at*
 obtain⟨B,s⟩:=nxq (w.heap.size+1)
 rw[←s]at h1⊢
 obtain⟨A,l⟩:=nxq w.heap.size
 rw[←l]at h0⊢
 obtain⟨K,G⟩:=jq2 h0 h1
 have g:Hid (Ext w I):=jh D
 have T:Hid (w.heap.size=A∧A<B):=jh (by omega)
 clear x D h0 h1 l s
 obtain⟨S,W,p,Y,_,C,_,_,y⟩:=man_parts K.o c.o
 obtain⟨Z,V,q,X,_,j,_,_,u⟩:=man_parts G.o c.o
 obtain⟨M,L,N,O,J,H⟩:=jq6 p q C j y u
 obtain⟨t,z,n⟩:=jq3 (zag a.root) (cert_size (id:=m.cid) a.ckey a.csig) (zeb a.sig)
 have R:=run_string_row (P:=Tryd.prog) (v:=d) 24 9 5 Tryd.underlying24 Tryd.underlying5 Tryd.underlying9 (i.o.below g.o)
 have U:=run_string_row (P:=Tryd.prog) (v:=f) 24 9 5 Tryd.underlying24 Tryd.underlying5 Tryd.underlying9 (k.o.below g.o)
 have F:=jh (cert_eq (r:=true) (a:=m.cid) (b:=m.cid) c.o.ckey c.o.ckey c.o.csig c.o.csig (decide_eq_true ⟨rfl,rfl,rfl⟩))
 clear p q C j y u h E a i k
 go_wp2_with (first|(refine wpList_load_a (by rfl) _ _ rfl A 2 rfl _ _ _ M.o Tryd.underlying23 t.o ?_)|(refine wpList_load_a (by rfl) _ _ rfl B 2 rfl _ _ _ L.o Tryd.underlying23 t.o ?_)|(refine wpList_eql (by rfl) .eql 23 _ _ _ _ _ _ m.root m.root true rfl (Or.inl ⟨rfl,decide_eq_true rfl⟩) Tryd.underlying23 Tryd.underlying5 zdn zda zdl rfl rfl c.o.root c.o.root ?_)|(refine zdz (by rfl) _ _ rfl A 35 rfl _ _ N.o Tryd.underlying28 z.o ?_)|(refine zdz (by rfl) _ _ rfl B 35 rfl _ _ O.o Tryd.underlying28 z.o ?_)|(refine wpList_eqs (by rfl) 28 _ _ _ _ _ true F.o cert_guard rfl rfl rfl ?_)|(refine wpList_load_a (by rfl) _ _ rfl A 132 rfl _ _ _ J.o Tryd.underlying26 n.o ?_)|(refine wpList_load_a (by rfl) _ _ rfl B 132 rfl _ _ _ H.o Tryd.underlying26 n.o ?_)|(refine wpList_eql (by rfl) .eql 26 _ _ _ _ _ _ m.sig m.sig true rfl (Or.inl ⟨rfl,decide_eq_true rfl⟩) Tryd.underlying26 Tryd.underlying5 zdn zda sig_guard rfl rfl c.o.sig c.o.sig ?_))
 go_ret
 exact⟨rfl,g.o⟩
theorem rSignManifest_any(f:List UInt8)(m:Man)(wv:Value)(w:World)(hs:f.length=32)(a:m.Arr)(hw:Row1 w wv (m.wr.map bval))(W:GS w):
  Calls Tryd.prog 25 #[.agg (f.map bval).toArray,.agg (manC m wv).toArray] w fun e w'=>∃xv,e=.returned (.tuple #[.agg (manC (m.sgd f) xv).toArray,.int .i64 m.err])∧w'.ownsRow w.heap.size 5 1 xv (m.sgd f).wr.length ((m.sgd f).wr.map bval)∧Below w.heap.size w w':=by
 obtain⟨i0,hi,X,a2,a8⟩:=info_parts Tryd.info5
 obtain⟨ak,ai,ah,aa⟩:=jq4 hi X a2 a8
 clear hi X a2 a8
 obtain⟨q,I,HS,HG,HB⟩:=jq5 a hw hs W (boxes3 w (f.map bval) (manC m wv) (manC manZ (.slice none 0 0)) 23 30 30)
 go_enter Tryd.func25,Tryd.ntmps25
 go_upto_region 1 with(fail)
 obtain⟨h0,h1,h2,hE⟩:=HB.o
 change Code.wp _ _ _ _ (((w.alloc (.cells (f.map bval).toArray 23)).alloc (.cells (manC m wv).toArray 30)).alloc (.cells (manC manZ (.slice none 0 0)).toArray 30))
 generalize ((w.alloc (.cells (f.map bval).toArray 23)).alloc (.cells (manC m wv).toArray 30)).alloc (.cells (manC manZ (.slice none 0 0)).toArray 30)=V at*
 obtain⟨R,hR⟩:=nxq (w.heap.size+1+1)
 rw[←hR]at h2⊢
 obtain⟨M,Y⟩:=nxq (w.heap.size+1)
 rw[←Y]at h1⊢
 obtain⟨A,hA⟩:=nxq w.heap.size
 rw[←hA]at h0⊢
 obtain⟨O,b,d⟩:=jq3 h0 h1 h2
 have c:Hid (Ext w V):=jh hE
 have i:Hid (w.heap.size=A∧A<M∧M<R):=jh (by omega)
 clear HB hE h0 h1 h2 hA Y hR
 obtain⟨ac,U⟩:=jq2 (zdc a wv) (rBody_any m wv V q.o (I.o.below c.o))
 go_wp2_with (refine wpList_load_mid rfl _ _ rfl M 0 rfl _ _ b.o.range Tryd.underlying30 rfl ac.o ?_)
 refine U.o.mono ?_
 rintro e G ⟨x,rfl,L,n⟩
 have z:=jh (Row1.of_own L)
 have a5:Hid (∀k,x.ownBlock=some k→R<k∧k<G.heap.size):=jh (fun k e=>by have:=L.lt k e;have:=d.o.lt;omega)
 have I:=jh ((I.o.below c.o).below n)
 obtain⟨O,b,d⟩:=xq3 O b d n
 have c:=xxt c n
 clear L n U a hw hs W
 have HZ:=jh (zdc zcy (.slice none 0 0))
 cases hok:m.ok with
 |false=>
  have v:Hid (m.sgd f=manZ):=jh (if_neg (by rw[hok];simp))
  have r:=(Man.pac_no hok).1
  have Q:=jh r
  rw[r]
  go_wp2_with (first|(refine zcu rfl _ _ rfl _ rfl _ (build_man0 _) ?_)|(refine ssb R (manC manZ (.slice none 0 0)) d.o rfl HZ.o (zed rfl) ?_;intro ab T J))
  refine bodyPost_ret (zaw rfl _ R _ _ _ rfl T Tryd.underlying30 rfl HZ.o) rfl ?_
  exact⟨.slice none 0 0,by rw[v.o,Q.o];rfl,by rw[v.o];exact World.ownsRow_nil _ _ _ _,zab c.o J (by have:=i.o;omega)⟩
 |true=>
  obtain⟨r,a7⟩:=Man.yes hok
  obtain⟨Q,Z⟩:=jq2 r d.o.lt
  have P:Hid (m.wr.length=80):=jh (Man.ok_all hok).2.2.2.1
  have aj:=jh (Man.body_length q.o P.o)
  rw[r]
  rw[a7]at z
  obtain⟨g,H⟩:=nxq (edSign f m.body)
  have v:Hid (m.sgd f={ m with sig:=g }):=jh (by rw[H];exact if_pos hok)
  have C:Hid (g.length=64):=jh (by rw[H];exact zeg _ _)
  have a9:=jh H
  clear H hok r a7
  have K:=(man_parts b.o q.o).2.2.2.1
  have f3:=b.o.free 34
  have ae:Hid (∀k,R<k→A≠k∧M≠k∧R≠k):=jh (fun k hk=>by have:=i.o;omega)
  go_upto_region 5 with(at_builtin;refine zad rfl _ _ 24 rfl G.heap.size 5 i0 (.int .u8 0) 1 Tryd.underlying24 ak.o ai.o ah.o aa.o rfl (.slice none 0 0) 0 [] rfl (World.ownsRow_nil _ _ _ _) rfl I.o (zac _) (by rw[q100,P.o];unfold maxLen;omega) (by rw[q100,P.o];omega) (q101 _) ?_;intro s D B a4;have l:Ext G D:=zay (Ext.refl _) (World.ownsRow_nil _ _ 5 _) (q101 _) a4;have K:=(Below.cell l (q135 G _ K)).trans K;have f3:=(zal b.o l).free 34;obtain⟨F,y,ad,_⟩:=id (Row1.of_own B);subst ad)
  rw[q116,q100,q111]at B
  obtain⟨p,E⟩:=jq2 (zce B c.o.size) B.lt
  have a6:=jh (by have h:=(zal b.o l).set 34 (.slice F m.wr.length y);rwa [lay_wr q.o]at h)
  have j:D.grownBy (D.setCell ⟨M,34,none⟩ (.slice F m.wr.length y)) (some M):=zaz (zbc D _) 34 _
  have al:=l.size
  have a3:=jh ((zal O.o l).grown j (by have:=i.o;simp;omega))
  have d:=jh ((zal d.o l).grown j (by have:=i.o;simp;omega))
  have z:=jh ((z.o.below l).grown j (fun k hk e=>by have h1:=a5.o k e;have h2:=i.o;cases hk;omega))
  have p:=jh (own_far p.o j (fun k e=>by have h1:=E.o k e;have h2:=Z.o;have h3:=i.o;omega))
  have E:Hid (∀k,(Value.slice F m.wr.length y).ownBlock=some k→k≠M∧k≠R):=jh (fun k e=>by have h1:=(E.o k e).1;have h2:=Z.o;have h3:=i.o;exact⟨by omega,by omega⟩)
  have c:=jh (zab (c.o.trans l) j (by have:=i.o;omega))
  clear a4 B l j K f3 b ae
  have b:=a6
  clear a6
  generalize D.setCell ⟨M,34,none⟩ (.slice F m.wr.length y)=w3 at*
  generalize Value.slice F m.wr.length y=s at*
  have a1:=jh (fun (wx:World) (hx:Ext w3 wx)=>by
   have u:=HG.o.ext (c.o.trans hx)
   have h:=rsign_f f m.body x wx HS.o (z.o.below hx) (by rw[aj.o];decide) u.1 u.2.1 u.2.2.1 u.2.2.2.1 u.2.2.2.2
   rw[←a9.o]at h
   exact h)
  have af:=jh (zag HS.o)
  go_wp2_with (refine slb A a3.o Tryd.underlying23 af.o ?_)
  refine(a1.o w3 (Ext.refl _)).mono ?_
  rintro e t ⟨rfl,n⟩
  obtain⟨b,d⟩:=xq2 b d n
  have p:=jh (zbi p.o n)
  have c:=xxt c n
  clear n a1 z a5 a3
  have a0:=jh (zeb C.o)
  go_upto_region 6 with(refine wpList_store_mid rfl _ _ _ rfl M 132 (g.map bval).toArray rfl rfl (by rw[q127,q100,C.o];exact man_there q.o b.o 132 64 (by omega)) (by rw[q127];exact a0.o) (all_oneCell_toArray (zac _)) ?_)
  try rw[List.toList_toArray]
  have N:=Blk.setCells (g.map bval) _ 132 _ b.o
  rw[(lay_sig q.o C.o).1]at N
  have j:t.grownBy (t.setCells M 132 (g.map bval)) (some M):=zbx (g.map bval) 132 t t (zbc t _)
  have b:=jh N
  have d:=jh (d.o.grown j (by have:=i.o;simp;omega))
  have p:=jh (own_far p.o j (fun k e=>(E.o k e).1))
  have c:=jh (zab c.o j (by have:=i.o;omega))
  clear N j a0
  generalize t.setCells M 132 (g.map bval)=w5 at*
  have S:Hid ((Tryd.prog.info? 30).map (·.size)=some (manC { m with sig:=g } s).length):=jh (zdc (put_sig q.o C.o) s)
  have ag:Hid ((manC { m with sig:=g } s).length=(manC manZ (.slice none 0 0)).length):=jh (by rw[zbd (put_sig q.o C.o),zbd zcy])
  go_wp2_with (first|(refine wpList_load_mid rfl _ _ rfl M 0 rfl _ _ b.o.range Tryd.underlying30 rfl S.o ?_)|(refine ssb R (manC { m with sig:=g } s) d.o ag.o S.o (zed (row_cell (Row1.of_own p.o))) ?_;intro ab T J))
  refine bodyPost_ret (zaw rfl _ R _ _ _ rfl T Tryd.underlying30 rfl S.o) rfl ?_
  exact⟨s,by rw[v.o,Q.o];rfl,by rw[v.o];exact own_far p.o J (fun k e=>(E.o k e).2),zab c.o J (by have:=i.o;omega)⟩
theorem fp_lit:fp 121665=121665:=by
 apply fin_int
 rw[fp_int]
 decide+kernel
theorem rladder_any(kb ub:List UInt8)(w:World)(hk:kb.length=32)(hu:ub.length=32):Calls Tryd.prog 46 #[.agg (kb.map bval).toArray,.agg (ub.map bval).toArray] w fun e w'=>e=.returned (.agg ((ladB kb ub).map bval).toArray)∧Below w.heap.size w w':=by
 obtain⟨HB,cq,eh⟩:=jq3 (boxes3 w (kb.map bval) (ub.map bval) (ints .u8 (List.replicate 32 0)) 23 23 23) hk hu
 clear hk hu
 go_enter Tryd.func46,Tryd.ntmps46
 go_upto_region 1 with(fail)
 obtain⟨H1,H2,H3,m⟩:=HB.o
 change Code.wp _ _ _ _ (((w.alloc (.cells (kb.map bval).toArray 23)).alloc (.cells (ub.map bval).toArray 23)).alloc (.cells (ints .u8 (List.replicate 32 0)).toArray 23))
 generalize ((w.alloc (.cells (kb.map bval).toArray 23)).alloc (.cells (ub.map bval).toArray 23)).alloc (.cells (ints .u8 (List.replicate 32 0)).toArray 23)=wa at*
 obtain⟨A,hA⟩:=nxq w.heap.size
 have b:Hid (w.heap.size≤A):=jh (by omega)
 rw[←hA]at H1 H2 H3⊢
 obtain⟨H1,H2,n⟩:=jq3 H1 H2 H3
 have m:Hid (Ext w wa):=jh m
 clear hA HB
 obtain⟨cl,d5⟩:=nxq (clampB kb)
 obtain⟨mu,cr⟩:=nxq (maskB ub)
 have cw:Hid (cl.length=32):=jh (by rw[d5];exact zcp cq.o)
 have en:Hid (mu.length=32):=jh (by rw[cr];exact maskB_length eh.o)
 have e6:=jh (zag cq.o)
 have fx:Hid ((Tryd.prog.info? 23).map (·.size)=some (cl.map bval).length):=jh (zag cw.o)
 have fn:Hid ((Tryd.prog.info? 23).map (·.size)=some (mu.map bval).length):=jh (zag en.o)
 have eg:Hid ((cl.map bval).length=(kb.map bval).length):=jh (by rw[q100,q100,cw.o,cq.o])
 have f2:Hid ((ub.map bval).set 31 (.int .u8 (bits .and .u8 ((ub.getD 31 0).toNat:Int) 127))=mu.map bval):=jh (by
  have e1:=u8_and (ub.getD 31 0) 127
  rw[show (127:Int)=((127:UInt8).toNat:Int)from rfl,e1,u8_set,cr]
  rfl)
 obtain⟨ft,g1,HC⟩:=jq3 d5 cr (rclamped_any kb wa cq.o)
 rw[←d5]at HC
 clear d5 cr
 go_wp2_with (refine slb A H1.o Tryd.underlying23 e6.o ?_)
 refine HC.o.mono ?_
 rintro e wb ⟨rfl,j⟩
 obtain⟨H1,H2,n⟩:=xq3 H1 H2 n j
 have m:=xxt m j
 clear j HC
 go_upto_region 2 with(refine ssb A (cl.map bval) H1.o eg.o fx.o (zac _) ?_;intro wc C c)
 have H2:=jh (H2.o.grown c (by simp))
 have n:=jh (n.o.grown c (by simp<;>omega))
 obtain⟨m,t⟩:=jq2 (zab m.o c b.o) C
 clear H1 C c eg e6
 have c1:=H2.o.cell 31
 rw[zbf (by rw[eh.o];omega)]at c1
 have f1:=H2.o.free 31
 generalize ((ub.getD 31 0).toNat:Int)=q1 at*
 go_upto_region 3 with(fail)
 have HM:=jh (H2.o.set 31 (.int .u8 (bits .and .u8 q1 127)))
 rw[f2.o]at HM
 have t:=jh (t.o.far (a:=⟨A+1,31,none⟩) (by simp) (.int .u8 (bits .and .u8 q1 127)))
 have n:=jh (n.o.far (a:=⟨A+1,31,none⟩) (by simp) (.int .u8 (bits .and .u8 q1 127)))
 have m:Hid (Ext w _):=jh (Below.setCell m.o (p:=⟨A+1,31,none⟩) (by have:=b.o;simp;omega) (.int .u8 (bits .and .u8 q1 127)))
 generalize bits .and .u8 q1 127=v1 at*
 generalize wc.setCell ⟨A+1,31,none⟩ (.int .u8 v1)=wd at*
 clear c1 f1 f2 H2
 obtain⟨a5,dj⟩:=nxq (fp (leN mu))
 have HC:=jh (rin_f mu wd en.o)
 rw[←dj]at HC
 have g4:=jh dj
 clear dj
 go_wp2_with (refine slb (A+1) HM.o Tryd.underlying23 fn.o ?_)
 refine HC.o.mono ?_
 rintro e cx ⟨r,rfl,J,j⟩
 obtain⟨z,hz,lz⟩:=J.form
 subst hz
 obtain⟨t,n⟩:=xq2 t n j
 have m:=xxt m j
 clear j HC HM
 obtain⟨V,P,X⟩:=jq3 (Blk.made cx (ints .i64 (List.replicate 16 0)) 87) (Ext.alloc cx (.cells (ints .i64 (List.replicate 16 0)).toArray 87)) (zaf lz)
 have U:Hid ((ints .i64 z).length=(ints .i64 (List.replicate 16 0)).length):=jh (by rw[zaa,lz];rfl)
 go_upto_region 4 with(refine ssb cx.heap.size (ints .i64 z) V.o U.o X.o (zai _ _) ?_;intro f4 C c)
 have l:=jh (zab P.o c (q101 _))
 obtain⟨bl,N⟩:=nxq cx.heap.size
 have fr:Hid (A+2<bl):=jh (by rw[N];exact n.o.lt)
 rw[←N]at C⊢
 obtain⟨t,n⟩:=xq2 t n l.o
 have m:=xxt m l.o
 have x:Hid (ElB f4 bl (a5)):=jh ⟨z,lz,C,J⟩
 have b:=jh (And.intro b.o fr.o)
 clear C c V P l N J X U lz
 go_wp2_with fail
 refine(rone_f 1 f4 (by omega) (by omega)).mono ?_
 rintro e cy ⟨r,rfl,J,j⟩
 obtain⟨z,hz,lz⟩:=J.form
 subst hz
 have x:=jh (x.o.ext j)
 obtain⟨t,n⟩:=xq2 t n j
 have m:=xxt m j
 clear j
 obtain⟨V,P,X⟩:=jq3 (Blk.made cy (ints .i64 (List.replicate 16 0)) 87) (Ext.alloc cy (.cells (ints .i64 (List.replicate 16 0)).toArray 87)) (zaf lz)
 have U:Hid ((ints .i64 z).length=(ints .i64 (List.replicate 16 0)).length):=jh (by rw[zaa,lz];rfl)
 go_upto_region 5 with(refine ssb cy.heap.size (ints .i64 z) V.o U.o X.o (zai _ _) ?_;intro bv C c)
 have l:=jh (zab P.o c (q101 _))
 obtain⟨aa,N⟩:=nxq cy.heap.size
 have f9:Hid (bl<aa):=jh (by rw[N];exact x.o.lt)
 rw[←N]at C⊢
 have x:=jh (x.o.ext l.o)
 obtain⟨t,n⟩:=xq2 t n l.o
 have m:=xxt m l.o
 have y:Hid (ElB bv aa (fp 1)):=jh ⟨z,lz,C,J⟩
 have b:=jh (And.intro b.o f9.o)
 clear C c V P l N J X U lz
 go_upto_region 6 with(fail)
 change Code.wp _ _ _ _ (bv.alloc (.cells (ints .i64 (List.replicate 16 0)).toArray 87))
 obtain⟨V,P⟩:=jq2 (Blk.made bv (ints .i64 (List.replicate 16 0)) 87) (Ext.alloc bv (.cells (ints .i64 (List.replicate 16 0)).toArray 87))
 obtain⟨a7,N⟩:=nxq bv.heap.size
 have fm:Hid (aa<a7):=jh (by rw[N];exact y.o.lt)
 rw[←N]at V⊢
 clear N
 generalize bv.alloc (.cells (ints .i64 (List.replicate 16 0)).toArray 87)=c5 at*
 obtain⟨x,y⟩:=jq2 (x.o.ext P.o) (y.o.ext P.o)
 obtain⟨t,n⟩:=xq2 t n P.o
 have m:=xxt m P.o
 have D:Hid (ElB c5 a7 0):=jh ⟨List.replicate 16 0,by simp,V.o,el_zero⟩
 have b:=jh (And.intro b.o fm.o)
 clear V P
 obtain⟨ce,bo,cj,cc⟩:=x.o
 obtain⟨cv,co,db,cf⟩:=jq4 cj cc bo (zaf bo)
 clear cj cc bo
 have lz:=db.o
 have J:=co.o
 clear db co
 obtain⟨V,P⟩:=jq2 (Blk.made c5 (ints .i64 (List.replicate 16 0)) 87) (Ext.alloc c5 (.cells (ints .i64 (List.replicate 16 0)).toArray 87))
 have HS:=xxb cv P.o
 have U:Hid ((ints .i64 ce).length=(ints .i64 (List.replicate 16 0)).length):=jh (by rw[zaa,lz];rfl)
 go_upto_region 7 with(first|(refine slb bl cv.o Tryd.underlying87 cf.o ?_)|(refine slb bl HS.o Tryd.underlying87 cf.o ?_)|(refine ssb c5.heap.size (ints .i64 ce) V.o U.o cf.o (zai _ _) ?_;intro ec C c))
 have l:=jh (zab P.o c (q101 _))
 obtain⟨ae,N⟩:=nxq c5.heap.size
 have gb:Hid (a7<ae):=jh (by rw[N];exact D.o.lt)
 rw[←N]at C⊢
 obtain⟨x,y,D⟩:=jq3 (x.o.ext l.o) (y.o.ext l.o) (D.o.ext l.o)
 obtain⟨t,n⟩:=xq2 t n l.o
 have m:=xxt m l.o
 have E:Hid (ElB ec ae (a5)):=jh ⟨ce,lz,C,J⟩
 have b:=jh (And.intro b.o gb.o)
 clear C c V P l N J U lz HS
 go_wp2_with fail
 refine(rone_f 1 ec (by omega) (by omega)).mono ?_
 rintro e cp ⟨r,rfl,J,j⟩
 obtain⟨z,hz,lz⟩:=J.form
 subst hz
 obtain⟨x,y,D,E⟩:=jq4 (x.o.ext j) (y.o.ext j) (D.o.ext j) (E.o.ext j)
 obtain⟨t,n⟩:=xq2 t n j
 have m:=xxt m j
 clear j
 obtain⟨V,P,X⟩:=jq3 (Blk.made cp (ints .i64 (List.replicate 16 0)) 87) (Ext.alloc cp (.cells (ints .i64 (List.replicate 16 0)).toArray 87)) (zaf lz)
 have U:Hid ((ints .i64 z).length=(ints .i64 (List.replicate 16 0)).length):=jh (by rw[zaa,lz];rfl)
 go_upto_region 8 with(refine ssb cp.heap.size (ints .i64 z) V.o U.o X.o (zai _ _) ?_;intro dt C c)
 have l:=jh (zab P.o c (q101 _))
 obtain⟨a6,N⟩:=nxq cp.heap.size
 have fk:Hid (ae<a6):=jh (by rw[N];exact E.o.lt)
 rw[←N]at C⊢
 obtain⟨x,y,D,E⟩:=jq4 (x.o.ext l.o) (y.o.ext l.o) (D.o.ext l.o) (E.o.ext l.o)
 obtain⟨t,n⟩:=xq2 t n l.o
 have m:=xxt m l.o
 have F:Hid (ElB dt a6 (fp 1)):=jh ⟨z,lz,C,J⟩
 have b:=jh (And.intro b.o fk.o)
 clear C c V P l N J X U lz
 have y:Hid (ElB dt aa 1):=jh (by rw[←fp_one];exact y.o)
 have F:Hid (ElB dt a6 1):=jh (by rw[←fp_one];exact F.o)
 go_wp2_with fail
 go_loopw [10] (fun i wr=>∃k:Nat,k≤255∧i=.int .i64 (254 - (k:Int))∧ElB wr bl a5∧ElB wr aa (lrun a5 (leN cl) k).x2∧ElB wr a7 (lrun a5 (leN cl) k).z2∧ElB wr ae (lrun a5 (leN cl) k).x3∧ElB wr a6 (lrun a5 (leN cl) k).z3∧Blk wr A (cl.map bval) 23∧Blk wr (A+1+1) (ints .u8 (List.replicate 32 0)) 23∧Ext w wr) (fun i _=>(intOf i+1).toNat)
 case atStart=>exact⟨0,by omega,rfl,x.o,y.o,D.o,E.o,F.o,t.o,n.o,m.o⟩
 case round=>
  clear x y D E F t n m
  obtain⟨k,hk,rfl,q1,q2,q3,q4,q5,q6,q7,q8⟩:=hrel
  have gf:(0:Int)≤(k:Int):=Int.natCast_nonneg _
  obtain⟨s,hs⟩:=nxq (lrun a5 (leN cl) k)
  rw[←hs]at q2 q3 q4 q5
  obtain⟨x,y,D,E,F,t⟩:=jq6 q1 q2 q3 q4 q5 q6
  obtain⟨n,m⟩:=jq2 q7 q8
  clear q1 q2 q3 q4 q5 q6 q7 q8
  by_cases gh:k<255
  ·have i1:(0:Int)≤254 - (k:Int):=by omega
   have i2:(k:Int)≤254:=by omega
   have e1:=t.o.cell ((254 - k) / 8)
   rw[zbf (by have:=cw.o;omega)]at e1
   generalize ex:(cl.getD ((254 - k) / 8) 0).toNat=bt at*
   have s1:((254 - (k:Int)) / 8).toNat=(254 - k) / 8:=by omega
   have s2:(0:Int)≤(254 - (k:Int)) / 8:=by omega
   have s3:(254 - (k:Int)) / 8<32:=by omega
   have s4:(0:Int)≤(254 - (k:Int))%8:=by omega
   have s5:(254 - (k:Int))%8<8:=by omega
   have s6:((254 - (k:Int))%8).toNat=(254 - k)%8:=by omega
   have dy:=leN_bit cl (254 - k) (by have:=cw.o;omega)
   rw[ex]at dy
   have f3:(bt:Int) / 2^((254 - k)%8)=((bt / 2^((254 - k)%8):Nat):Int):=by
    rw[Int.natCast_ediv,Int.natCast_pow]
    rfl
   have f5:(leN cl).testBit (254 - k)=decide (leN cl / 2^(254 - k)%2=1):=Nat.testBit_eq_decide_div_mod_eq
   obtain⟨bq,dg⟩:=nxq (leN cl / 2^(254 - k)%2)
   have em:Hid (bq=1∨bq=0):=jh (by omega)
   have hq:bits .and .u8 ((bt:Int) / 2^((254 - k)%8)) 1=(bq:Int):=by
    rw[f3,andU1,←dy,←dg]
   obtain⟨q,df⟩:=nxq (if bq=1 then s.swap else s)
   have HQ:=jh df
   have HG:Hid (lrun a5 (leN cl) (k+1)=if bq=1 then(q.step a5).swap else q.step a5):=jh (by
    rw[lrun,f5,←hs,←dg,df]
    by_cases h:bq=1
    ·simp only[h,decide_true]
     rfl
    simp only[h,decide_false]
    rfl)
   clear dy f3 f5 ex dg df
   go_upto_if 47 with(fail)
   clear hq e1 s1 s2 s3 s4 s5 s6 hs
   go_cut [48]from 48 to 52 (fun v wq=>ElB wq bl a5∧ElB wq aa q.x2∧ElB wq a7 q.z2∧ElB wq ae q.x3∧ElB wq a6 q.z3∧Blk wq A (cl.map bval) 23∧Blk wq (A+1+1) (ints .u8 (List.replicate 32 0)) 23∧Ext w wq)
   case first=>
    rcases em.o with j|j
    ·have hI:(bq:Int)=1:=by omega
     have hm:((bq:Int)==1)=true:=by rw[hI];rfl
     have dv:decide ((bq:Int)=1)=true:=by rw[hI];rfl
     have de:Hid (q=s.swap):=jh (by rw[HQ.o,j];rfl)
     clear hI j
     go_upto_region 13 with(fail)
     obtain⟨af,a1,a8,ab⟩:=y.o
     obtain⟨am,bc,aw,ar⟩:=jq4 a8 ab a1 (zaf a1)
     clear a8 ab a1
     obtain⟨ad,a3,ai,ak⟩:=E.o
     obtain⟨ay,bi,b6,be⟩:=jq4 ai ak a3 (zaf a3)
     clear ai ak a3
     have b0:Hid ((ints .i64 ad).length=(ints .i64 af).length):=jh (by rw[zaa,zaa,aw.o,b6.o])
     have ba:Hid ((ints .i64 af).length=(ints .i64 ad).length):=jh (by rw[zaa,zaa,aw.o,b6.o])
     go_upto_region 14 with(first|(refine slb aa am.o Tryd.underlying87 ar.o ?_)|(refine slb ae ay.o Tryd.underlying87 be.o ?_)|(refine ssb aa (ints .i64 ad) am.o b0.o be.o (zai _ _) ?_;intro gm C c;have az:=jh (ay.o.grown c (by have:=b.o;simp;omega));have L:=jh c;have b5:=jh C;clear C c)|(refine ssb ae (ints .i64 af) az.o ba.o ar.o (zai _ _) ?_;intro dz C c))
     have x:=jh ((x.o.grown L.o (by have:=b.o;simp;omega)).grown c (by have:=b.o;simp;omega))
     have D:=jh ((D.o.grown L.o (by have:=b.o;simp;omega)).grown c (by have:=b.o;simp;omega))
     have F:=jh ((F.o.grown L.o (by have:=b.o;simp;omega)).grown c (by have:=b.o;simp;omega))
     have t:=jh ((t.o.grown L.o (by have:=b.o;simp;omega)).grown c (by have:=b.o;simp;omega))
     have n:=jh ((n.o.grown L.o (by have:=b.o;simp;omega)).grown c (by have:=b.o;simp;omega))
     have m:=jh (zab (zab m.o L.o (by have:=b.o;omega)) c (by have:=b.o;omega))
     have y:Hid (ElB dz aa (s.x3)):=jh ⟨ad,b6.o,b5.o.grown c (by have:=b.o;simp;omega),bi.o⟩
     have E:Hid (ElB dz ae (s.x2)):=jh ⟨af,aw.o,C,bc.o⟩
     clear C c L b5 az b0 ba
     obtain⟨al,a0,a9,ac⟩:=D.o
     obtain⟨an,bf,av,ax⟩:=jq4 a9 ac a0 (zaf a0)
     clear a9 ac a0
     obtain⟨ag,a4,aj,ah⟩:=F.o
     obtain⟨b8,bj,b7,bd⟩:=jq4 aj ah a4 (zaf a4)
     clear aj ah a4
     have b0:Hid ((ints .i64 ag).length=(ints .i64 al).length):=jh (by rw[zaa,zaa,av.o,b7.o])
     have ba:Hid ((ints .i64 al).length=(ints .i64 ag).length):=jh (by rw[zaa,zaa,av.o,b7.o])
     go_wp2_with (first|(refine slb a7 an.o Tryd.underlying87 ax.o ?_)|(refine slb a6 b8.o Tryd.underlying87 bd.o ?_)|(refine ssb a7 (ints .i64 ag) an.o b0.o bd.o (zai _ _) ?_;intro gd C c;have az:=jh (b8.o.grown c (by have:=b.o;simp;omega));have L:=jh c;have b5:=jh C;clear C c)|(refine ssb a6 (ints .i64 al) az.o ba.o ax.o (zai _ _) ?_;intro e5 C c))
     have x:=jh ((x.o.grown L.o (by have:=b.o;simp;omega)).grown c (by have:=b.o;simp;omega))
     have y:=jh ((y.o.grown L.o (by have:=b.o;simp;omega)).grown c (by have:=b.o;simp;omega))
     have E:=jh ((E.o.grown L.o (by have:=b.o;simp;omega)).grown c (by have:=b.o;simp;omega))
     have t:=jh ((t.o.grown L.o (by have:=b.o;simp;omega)).grown c (by have:=b.o;simp;omega))
     have n:=jh ((n.o.grown L.o (by have:=b.o;simp;omega)).grown c (by have:=b.o;simp;omega))
     have m:=jh (zab (zab m.o L.o (by have:=b.o;omega)) c (by have:=b.o;omega))
     have D:Hid (ElB e5 a7 (s.z3)):=jh ⟨ag,b7.o,b5.o.grown c (by have:=b.o;simp;omega),bj.o⟩
     have F:Hid (ElB e5 a6 (s.z2)):=jh ⟨al,av.o,C,bf.o⟩
     clear C c L b5 az b0 ba
     go_meet
     rw[de.o]
     exact⟨x.o,y.o,D.o,E.o,F.o,t.o,n.o,m.o⟩
    have hI:(bq:Int)=0:=by omega
    have hm:((bq:Int)==1)=false:=by rw[hI];rfl
    have dv:decide ((bq:Int)=1)=false:=by rw[hI];rfl
    have de:Hid (q=s):=jh (by rw[HQ.o,j];rfl)
    clear hI j
    go_wp2_with fail
    go_meet
    rw[de.o]
    exact⟨x.o,y.o,D.o,E.o,F.o,t.o,n.o,m.o⟩
   case rest=>
    clear x y D E F t n m HQ
    obtain⟨q1,q2,q3,q4,q5,q6,q7,q8⟩:=hcut
    obtain⟨x,y,D,E,F,t⟩:=jq6 q1 q2 q3 q4 q5 q6
    obtain⟨n,m⟩:=jq2 q7 q8
    clear q1 q2 q3 q4 q5 q6 q7 q8
    generalize wc=wv at*
    go_upto_region 15 with(fail)
    obtain⟨af,a1,a8,ab⟩:=y.o
    obtain⟨am,bc,aw,ar⟩:=jq4 a8 ab a1 (zaf a1)
    clear a8 ab a1
    obtain⟨al,a0,a9,ac⟩:=D.o
    obtain⟨an,bf,av,ax⟩:=jq4 a9 ac a0 (zaf a0)
    clear a9 ac a0
    go_wp2_with (first|(refine slb aa am.o Tryd.underlying87 ar.o ?_)|(refine slb a7 an.o Tryd.underlying87 ax.o ?_))
    refine(radd_f wv bc.o bf.o).mono ?_
    rintro e d6 ⟨r,rfl,J,j⟩
    obtain⟨z,hz,lz⟩:=J.form
    subst hz
    obtain⟨x,y,D,E,F⟩:=jq5 (x.o.ext j) (y.o.ext j) (D.o.ext j) (E.o.ext j) (F.o.ext j)
    obtain⟨t,n⟩:=xq2 t n j
    have m:=xxt m j
    clear j
    obtain⟨V,P,X⟩:=jq3 (Blk.made d6 (ints .i64 (List.replicate 16 0)) 87) (Ext.alloc d6 (.cells (ints .i64 (List.replicate 16 0)).toArray 87)) (zaf lz)
    have U:Hid ((ints .i64 z).length=(ints .i64 (List.replicate 16 0)).length):=jh (by rw[zaa,lz];rfl)
    go_upto_region 16 with(refine ssb d6.heap.size (ints .i64 z) V.o U.o X.o (zai _ _) ?_;intro ee C c)
    have l:=jh (zab P.o c (q101 _))
    obtain⟨TA,N⟩:=nxq d6.heap.size
    have ga:Hid (a6<TA):=jh (by rw[N];exact F.o.lt)
    rw[←N]at C⊢
    obtain⟨x,y,D,E,F⟩:=jq5 (x.o.ext l.o) (y.o.ext l.o) (D.o.ext l.o) (E.o.ext l.o) (F.o.ext l.o)
    obtain⟨t,n⟩:=xq2 t n l.o
    have m:=xxt m l.o
    have I:Hid (ElB ee TA (q.x2+q.z2)):=jh ⟨z,lz,C,J⟩
    have b:=jh (And.intro b.o ga.o)
    clear C c V P l N J X U lz
    obtain⟨zA,lA,bA,eA⟩:=I.o
    obtain⟨d9,d4,fa,d8⟩:=jq4 bA eA lA (zaf lA)
    clear bA eA lA
    go_wp2_with (first|(refine slb TA d9.o Tryd.underlying87 d8.o ?_))
    refine(zcm ee d4.o d4.o).mono ?_
    rintro e cu ⟨r,rfl,J,j⟩
    obtain⟨z,hz,lz⟩:=J.form
    subst hz
    obtain⟨x,y,D,E,F,I⟩:=jq6 (x.o.ext j) (y.o.ext j) (D.o.ext j) (E.o.ext j) (F.o.ext j) (I.o.ext j)
    obtain⟨t,n⟩:=xq2 t n j
    have m:=xxt m j
    clear j
    obtain⟨V,P,X⟩:=jq3 (Blk.made cu (ints .i64 (List.replicate 16 0)) 87) (Ext.alloc cu (.cells (ints .i64 (List.replicate 16 0)).toArray 87)) (zaf lz)
    have U:Hid ((ints .i64 z).length=(ints .i64 (List.replicate 16 0)).length):=jh (by rw[zaa,lz];rfl)
    go_upto_region 17 with(refine ssb cu.heap.size (ints .i64 z) V.o U.o X.o (zai _ _) ?_;intro ez C c)
    have l:=jh (zab P.o c (q101 _))
    obtain⟨bw,N⟩:=nxq cu.heap.size
    have g8:Hid (TA<bw):=jh (by rw[N];exact I.o.lt)
    rw[←N]at C⊢
    obtain⟨x,y,D,E,F,I⟩:=jq6 (x.o.ext l.o) (y.o.ext l.o) (D.o.ext l.o) (E.o.ext l.o) (F.o.ext l.o) (I.o.ext l.o)
    obtain⟨t,n⟩:=xq2 t n l.o
    have m:=xxt m l.o
    have M:Hid (ElB ez bw ((q.x2+q.z2)*(q.x2+q.z2))):=jh ⟨z,lz,C,J⟩
    have b:=jh (And.intro b.o g8.o)
    clear C c V P l N J X U lz
    obtain⟨af,a1,a8,ab⟩:=y.o
    obtain⟨am,bc,aw,ar⟩:=jq4 a8 ab a1 (zaf a1)
    clear a8 ab a1
    obtain⟨al,a0,a9,ac⟩:=D.o
    obtain⟨an,bf,av,ax⟩:=jq4 a9 ac a0 (zaf a0)
    clear a9 ac a0
    go_wp2_with (first|(refine slb aa am.o Tryd.underlying87 ar.o ?_)|(refine slb a7 an.o Tryd.underlying87 ax.o ?_))
    refine(rsub_f ez bc.o bf.o).mono ?_
    rintro e cz ⟨r,rfl,J,j⟩
    obtain⟨z,hz,lz⟩:=J.form
    subst hz
    obtain⟨x,y,D,E,F,I⟩:=jq6 (x.o.ext j) (y.o.ext j) (D.o.ext j) (E.o.ext j) (F.o.ext j) (I.o.ext j)
    have M:=jh (M.o.ext j)
    obtain⟨t,n⟩:=xq2 t n j
    have m:=xxt m j
    clear j
    obtain⟨V,P,X⟩:=jq3 (Blk.made cz (ints .i64 (List.replicate 16 0)) 87) (Ext.alloc cz (.cells (ints .i64 (List.replicate 16 0)).toArray 87)) (zaf lz)
    have U:Hid ((ints .i64 z).length=(ints .i64 (List.replicate 16 0)).length):=jh (by rw[zaa,lz];rfl)
    go_upto_region 18 with(refine ssb cz.heap.size (ints .i64 z) V.o U.o X.o (zai _ _) ?_;intro f8 C c)
    have l:=jh (zab P.o c (q101 _))
    obtain⟨c2,N⟩:=nxq cz.heap.size
    have fv:Hid (bw<c2):=jh (by rw[N];exact M.o.lt)
    rw[←N]at C⊢
    obtain⟨x,y,D,E,F,I⟩:=jq6 (x.o.ext l.o) (y.o.ext l.o) (D.o.ext l.o) (E.o.ext l.o) (F.o.ext l.o) (I.o.ext l.o)
    have M:=jh (M.o.ext l.o)
    obtain⟨t,n⟩:=xq2 t n l.o
    have m:=xxt m l.o
    have O:Hid (ElB f8 c2 (q.x2 - q.z2)):=jh ⟨z,lz,C,J⟩
    have b:=jh (And.intro b.o fv.o)
    clear C c V P l N J X U lz
    obtain⟨ek,bm,cb,cg⟩:=O.o
    obtain⟨dn,cs,fd,di⟩:=jq4 cb cg bm (zaf bm)
    clear cb cg bm
    go_wp2_with (first|(refine slb c2 dn.o Tryd.underlying87 di.o ?_))
    refine(zcm f8 cs.o cs.o).mono ?_
    rintro e d2 ⟨r,rfl,J,j⟩
    obtain⟨z,hz,lz⟩:=J.form
    subst hz
    obtain⟨x,y,D,E,F,I⟩:=jq6 (x.o.ext j) (y.o.ext j) (D.o.ext j) (E.o.ext j) (F.o.ext j) (I.o.ext j)
    obtain⟨M,O⟩:=jq2 (M.o.ext j) (O.o.ext j)
    obtain⟨t,n⟩:=xq2 t n j
    have m:=xxt m j
    clear j
    obtain⟨V,P,X⟩:=jq3 (Blk.made d2 (ints .i64 (List.replicate 16 0)) 87) (Ext.alloc d2 (.cells (ints .i64 (List.replicate 16 0)).toArray 87)) (zaf lz)
    have U:Hid ((ints .i64 z).length=(ints .i64 (List.replicate 16 0)).length):=jh (by rw[zaa,lz];rfl)
    go_upto_region 19 with(refine ssb d2.heap.size (ints .i64 z) V.o U.o X.o (zai _ _) ?_;intro e7 C c)
    have l:=jh (zab P.o c (q101 _))
    obtain⟨c4,N⟩:=nxq d2.heap.size
    have fc:Hid (c2<c4):=jh (by rw[N];exact O.o.lt)
    rw[←N]at C⊢
    obtain⟨x,y,D,E,F,I⟩:=jq6 (x.o.ext l.o) (y.o.ext l.o) (D.o.ext l.o) (E.o.ext l.o) (F.o.ext l.o) (I.o.ext l.o)
    obtain⟨M,O⟩:=jq2 (M.o.ext l.o) (O.o.ext l.o)
    obtain⟨t,n⟩:=xq2 t n l.o
    have m:=xxt m l.o
    have Q:Hid (ElB e7 c4 ((q.x2 - q.z2)*(q.x2 - q.z2))):=jh ⟨z,lz,C,J⟩
    have b:=jh (And.intro b.o fc.o)
    clear C c V P l N J X U lz
    obtain⟨dm,b9,bk,bh⟩:=M.o
    obtain⟨c7,cd,ej,c8⟩:=jq4 bk bh b9 (zaf b9)
    clear bk bh b9
    obtain⟨fs,bp,c3,c6⟩:=Q.o
    obtain⟨dr,dh,fu,dq⟩:=jq4 c3 c6 bp (zaf bp)
    clear c3 c6 bp
    go_wp2_with (first|(refine slb bw c7.o Tryd.underlying87 c8.o ?_)|(refine slb c4 dr.o Tryd.underlying87 dq.o ?_))
    refine(rsub_f e7 cd.o dh.o).mono ?_
    rintro e d0 ⟨r,rfl,J,j⟩
    obtain⟨z,hz,lz⟩:=J.form
    subst hz
    obtain⟨x,y,D,E,F,I⟩:=jq6 (x.o.ext j) (y.o.ext j) (D.o.ext j) (E.o.ext j) (F.o.ext j) (I.o.ext j)
    obtain⟨M,O,Q⟩:=jq3 (M.o.ext j) (O.o.ext j) (Q.o.ext j)
    obtain⟨t,n⟩:=xq2 t n j
    have m:=xxt m j
    clear j
    obtain⟨V,P,X⟩:=jq3 (Blk.made d0 (ints .i64 (List.replicate 16 0)) 87) (Ext.alloc d0 (.cells (ints .i64 (List.replicate 16 0)).toArray 87)) (zaf lz)
    have U:Hid ((ints .i64 z).length=(ints .i64 (List.replicate 16 0)).length):=jh (by rw[zaa,lz];rfl)
    go_upto_region 20 with(refine ssb d0.heap.size (ints .i64 z) V.o U.o X.o (zai _ _) ?_;intro aq C c)
    have l:=jh (zab P.o c (q101 _))
    obtain⟨bz,N⟩:=nxq d0.heap.size
    have g9:Hid (c4<bz):=jh (by rw[N];exact Q.o.lt)
    rw[←N]at C⊢
    obtain⟨x,y,D,E,F,I⟩:=jq6 (x.o.ext l.o) (y.o.ext l.o) (D.o.ext l.o) (E.o.ext l.o) (F.o.ext l.o) (I.o.ext l.o)
    obtain⟨M,O,Q⟩:=jq3 (M.o.ext l.o) (O.o.ext l.o) (Q.o.ext l.o)
    obtain⟨t,n⟩:=xq2 t n l.o
    have m:=xxt m l.o
    have Y:Hid (ElB aq bz (((q.x2+q.z2)*(q.x2+q.z2)) - ((q.x2 - q.z2)*(q.x2 - q.z2)))):=jh ⟨z,lz,C,J⟩
    have b:=jh (And.intro b.o g9.o)
    clear C c V P l N J X U lz
    obtain⟨ad,a3,ai,ak⟩:=E.o
    obtain⟨ay,bi,b6,be⟩:=jq4 ai ak a3 (zaf a3)
    clear ai ak a3
    obtain⟨ag,a4,aj,ah⟩:=F.o
    obtain⟨b8,bj,b7,bd⟩:=jq4 aj ah a4 (zaf a4)
    clear aj ah a4
    obtain⟨zA,lA,bA,eA⟩:=I.o
    obtain⟨d9,d4,fa,d8⟩:=jq4 bA eA lA (zaf lA)
    clear bA eA lA
    go_wp2_with fail
    try simp only[nm]
    go_cut [17]from 67 to 71 (fun vq wq=>∃g,vq=.pointer (some ⟨g,0,none⟩)∧aq.heap.size≤g∧ElB wq g ((q.x3 - q.z3)*(q.x2+q.z2))∧Ext aq wq)
    case first=>
     have B0:Ext aq aq.drew:=Ext.drew _
     refine wp_region_held_drew (S:=fun w'=>Ext aq w') (by kernel_rfl) B0 (fun R=>?_)
     refine tke 0 (.agg (ints .i64 ad).toArray) rfl (sld ae 0 (fun w h=>zau ay.o h) Tryd.underlying87 be.o) R ?_
     simp only[nm]
     refine tke 1 (.agg (ints .i64 ag).toArray) rfl (sld a6 0 (fun w h=>zau b8.o h) Tryd.underlying87 bd.o) R ?_
     simp only[nm]
     refine tke 3 (.agg (ints .i64 zA).toArray) rfl (sld TA 0 (fun w h=>zau d9.o h) Tryd.underlying87 d8.o) R ?_
     simp only[nm]
     refine Fl.go (f:=5) (d:=17) (zs:=(ints .i64 (List.replicate 16 0))) (T:=87) (B:=(aq).heap.size) ?_ R
     clear R
     refine Fl.step 2 rfl rfl rfl rfl rfl Tryd.zeroValue87 (fun _ _ h1 h2=>h1.trans h2) (fun _ h=>h.size) (fun z1 u K ao bu H=>?_)
     have dw:Ext aq z1:=B0.trans ao
     clear bu
     go_simp
     refine(rsub_f _ bi.o bj.o).mono ?_
     rintro e m1 ⟨v1,rfl,e1,b1⟩
     obtain⟨z1,ao,l1⟩:=e1.form
     subst ao
     have N1:Ext aq m1:=dw.trans b1
     refine H.o (.agg (ints .i64 z1).toArray) _ b1 N1 ?_
     clear H K u
     try simp only[nm]
     refine Fl.step 4 rfl rfl rfl rfl rfl Tryd.zeroValue87 (fun _ _ h1 h2=>h1.trans h2) (fun _ h=>h.size) (fun z2 u K ap bu H=>?_)
     have dd:Ext aq z2:=N1.trans ap
     clear bu
     go_simp
     refine(zcm _ e1 d4.o).mono ?_
     rintro e m2 ⟨v2,rfl,e2,b2⟩
     obtain⟨z2,ap,l2⟩:=e2.form
     subst ap
     have N2:Ext aq m2:=dd.trans b2
     refine H.o (.agg (ints .i64 z2).toArray) _ b2 N2 ?_
     clear H K u
     try simp only[nm]
     refine Fl.last rfl rfl rfl rfl Tryd.zeroValue87 (fun _ _ h1 h2=>h1.trans h2) (fun _ h=>h.size) (fun m3 g3 b3 R l3 z3=>?_)
     try simp only[nm]
     have N3:Ext aq m3:=N2.trans b3
     refine rdy 6 rfl fun K H=>?_
     refine zan (by rfl) ?_
     refine zaq _ _ _ rfl g3 (ints .i64 z2) rfl rfl _ _ z3 (by rw[zaa,l2];rfl) (zaf l2) (zai _ _) ?_
     intro m4 c0 bx
     have N4:Ext aq m4:=zab N3 bx l3
     refine H.o _ _ N4 (fun R=>?_)
     clear H K
     try simp only[nm]
     refine dne ?_
     go_wp2_with fail
     go_meet
     exact⟨_,rfl,l3,⟨z2,l2,c0,e2⟩,N4⟩
    case rest=>
     obtain⟨d7,rfl,cm,bb,G⟩:=hcut
     have fo:Hid (bz<d7):=jh (q109 Y.o.lt cm)
     obtain⟨x,y,D,E,F,I⟩:=jq6 (x.o.ext G) (y.o.ext G) (D.o.ext G) (E.o.ext G) (F.o.ext G) (I.o.ext G)
     obtain⟨M,O,Q,Y⟩:=jq4 (M.o.ext G) (O.o.ext G) (Q.o.ext G) (Y.o.ext G)
     obtain⟨t,n⟩:=xq2 t n G
     have m:=xxt m G
     obtain⟨Z,b⟩:=jq2 bb (And.intro b.o fo.o)
     clear bb G cm
     generalize wc=au at*
     go_wp2_with fail
     obtain⟨ad,a3,ai,ak⟩:=E.o
     obtain⟨ay,bi,b6,be⟩:=jq4 ai ak a3 (zaf a3)
     clear ai ak a3
     obtain⟨ag,a4,aj,ah⟩:=F.o
     obtain⟨b8,bj,b7,bd⟩:=jq4 aj ah a4 (zaf a4)
     clear aj ah a4
     obtain⟨ek,bm,cb,cg⟩:=O.o
     obtain⟨dn,cs,fd,di⟩:=jq4 cb cg bm (zaf bm)
     clear cb cg bm
     go_wp2_with fail
     try simp only[nm]
     go_cut [18]from 72 to 76 (fun vq wq=>∃g,vq=.pointer (some ⟨g,0,none⟩)∧au.heap.size≤g∧ElB wq g ((q.x3+q.z3)*(q.x2 - q.z2))∧Ext au wq)
     case first=>
      have B0:Ext au au.drew:=Ext.drew _
      refine wp_region_held_drew (S:=fun w'=>Ext au w') (by kernel_rfl) B0 (fun R=>?_)
      refine tke 0 (.agg (ints .i64 ad).toArray) rfl (sld ae 0 (fun w h=>zau ay.o h) Tryd.underlying87 be.o) R ?_
      simp only[nm]
      refine tke 1 (.agg (ints .i64 ag).toArray) rfl (sld a6 0 (fun w h=>zau b8.o h) Tryd.underlying87 bd.o) R ?_
      simp only[nm]
      refine tke 3 (.agg (ints .i64 ek).toArray) rfl (sld c2 0 (fun w h=>zau dn.o h) Tryd.underlying87 di.o) R ?_
      simp only[nm]
      refine Fl.go (f:=5) (d:=18) (zs:=(ints .i64 (List.replicate 16 0))) (T:=87) (B:=(au).heap.size) ?_ R
      clear R
      refine Fl.step 2 rfl rfl rfl rfl rfl Tryd.zeroValue87 (fun _ _ h1 h2=>h1.trans h2) (fun _ h=>h.size) (fun z1 u K ao bu H=>?_)
      have dw:Ext au z1:=B0.trans ao
      clear bu
      go_simp
      refine(radd_f _ bi.o bj.o).mono ?_
      rintro e m1 ⟨v1,rfl,e1,b1⟩
      obtain⟨z1,ao,l1⟩:=e1.form
      subst ao
      have N1:Ext au m1:=dw.trans b1
      refine H.o (.agg (ints .i64 z1).toArray) _ b1 N1 ?_
      clear H K u
      try simp only[nm]
      refine Fl.step 4 rfl rfl rfl rfl rfl Tryd.zeroValue87 (fun _ _ h1 h2=>h1.trans h2) (fun _ h=>h.size) (fun z2 u K ap bu H=>?_)
      have dd:Ext au z2:=N1.trans ap
      clear bu
      go_simp
      refine(zcm _ e1 cs.o).mono ?_
      rintro e m2 ⟨v2,rfl,e2,b2⟩
      obtain⟨z2,ap,l2⟩:=e2.form
      subst ap
      have N2:Ext au m2:=dd.trans b2
      refine H.o (.agg (ints .i64 z2).toArray) _ b2 N2 ?_
      clear H K u
      try simp only[nm]
      refine Fl.last rfl rfl rfl rfl Tryd.zeroValue87 (fun _ _ h1 h2=>h1.trans h2) (fun _ h=>h.size) (fun m3 g3 b3 R l3 z3=>?_)
      try simp only[nm]
      have N3:Ext au m3:=N2.trans b3
      refine rdy 6 rfl fun K H=>?_
      refine zan (by rfl) ?_
      refine zaq _ _ _ rfl g3 (ints .i64 z2) rfl rfl _ _ z3 (by rw[zaa,l2];rfl) (zaf l2) (zai _ _) ?_
      intro m4 c0 bx
      have N4:Ext au m4:=zab N3 bx l3
      refine H.o _ _ N4 (fun R=>?_)
      clear H K
      try simp only[nm]
      refine dne ?_
      go_wp2_with fail
      go_meet
      exact⟨_,rfl,l3,⟨z2,l2,c0,e2⟩,N4⟩
     case rest=>
      obtain⟨d3,rfl,cm,bb,G⟩:=hcut
      have fz:Hid (d7<d3):=jh (q109 Z.o.lt cm)
      obtain⟨x,y,D,E,F,I⟩:=jq6 (x.o.ext G) (y.o.ext G) (D.o.ext G) (E.o.ext G) (F.o.ext G) (I.o.ext G)
      obtain⟨M,O,Q,Y,Z⟩:=jq5 (M.o.ext G) (O.o.ext G) (Q.o.ext G) (Y.o.ext G) (Z.o.ext G)
      obtain⟨t,n⟩:=xq2 t n G
      have m:=xxt m G
      obtain⟨W,b⟩:=jq2 bb (And.intro b.o fz.o)
      clear bb G cm
      generalize wc=fj at*
      obtain⟨fh,bs,c9,ci⟩:=Z.o
      obtain⟨dp,da,fg,ds⟩:=jq4 c9 ci bs (zaf bs)
      clear c9 ci bs
      obtain⟨g7,bn,ck,ca⟩:=W.o
      obtain⟨dl,dx,fe,dc⟩:=jq4 ck ca bn (zaf bn)
      clear ck ca bn
      go_wp2_with (first|(refine slb d7 dp.o Tryd.underlying87 ds.o ?_)|(refine slb d3 dl.o Tryd.underlying87 dc.o ?_))
      refine(radd_f fj da.o dx.o).mono ?_
      rintro e d1 ⟨r,rfl,J,j⟩
      obtain⟨z,hz,lz⟩:=J.form
      subst hz
      obtain⟨x,y,D,E,F,I⟩:=jq6 (x.o.ext j) (y.o.ext j) (D.o.ext j) (E.o.ext j) (F.o.ext j) (I.o.ext j)
      obtain⟨M,O,Q,Y,Z,W⟩:=jq6 (M.o.ext j) (O.o.ext j) (Q.o.ext j) (Y.o.ext j) (Z.o.ext j) (W.o.ext j)
      obtain⟨t,n⟩:=xq2 t n j
      have m:=xxt m j
      clear j
      obtain⟨V,P,X⟩:=jq3 (Blk.made d1 (ints .i64 (List.replicate 16 0)) 87) (Ext.alloc d1 (.cells (ints .i64 (List.replicate 16 0)).toArray 87)) (zaf lz)
      have U:Hid ((ints .i64 z).length=(ints .i64 (List.replicate 16 0)).length):=jh (by rw[zaa,lz];rfl)
      go_upto_region 23 with(refine ssb d1.heap.size (ints .i64 z) V.o U.o X.o (zai _ _) ?_;intro f7 C c)
      have l:=jh (zab P.o c (q101 _))
      obtain⟨TS,N⟩:=nxq d1.heap.size
      have g6:Hid (d3<TS):=jh (by rw[N];exact W.o.lt)
      rw[←N]at C⊢
      obtain⟨x,y,D,E,F,I⟩:=jq6 (x.o.ext l.o) (y.o.ext l.o) (D.o.ext l.o) (E.o.ext l.o) (F.o.ext l.o) (I.o.ext l.o)
      obtain⟨M,O,Q,Y,Z,W⟩:=jq6 (M.o.ext l.o) (O.o.ext l.o) (Q.o.ext l.o) (Y.o.ext l.o) (Z.o.ext l.o) (W.o.ext l.o)
      obtain⟨t,n⟩:=xq2 t n l.o
      have m:=xxt m l.o
      have ES:Hid (ElB f7 TS (((q.x3 - q.z3)*(q.x2+q.z2))+((q.x3+q.z3)*(q.x2 - q.z2)))):=jh ⟨z,lz,C,J⟩
      have b:=jh (And.intro b.o g6.o)
      clear C c V P l N J X U lz
      obtain⟨fh,bs,c9,ci⟩:=Z.o
      obtain⟨dp,da,fg,ds⟩:=jq4 c9 ci bs (zaf bs)
      clear c9 ci bs
      obtain⟨g7,bn,ck,ca⟩:=W.o
      obtain⟨dl,dx,fe,dc⟩:=jq4 ck ca bn (zaf bn)
      clear ck ca bn
      go_wp2_with (first|(refine slb d7 dp.o Tryd.underlying87 ds.o ?_)|(refine slb d3 dl.o Tryd.underlying87 dc.o ?_))
      refine(rsub_f f7 da.o dx.o).mono ?_
      rintro e cn ⟨r,rfl,J,j⟩
      obtain⟨z,hz,lz⟩:=J.form
      subst hz
      obtain⟨x,y,D,E,F,I⟩:=jq6 (x.o.ext j) (y.o.ext j) (D.o.ext j) (E.o.ext j) (F.o.ext j) (I.o.ext j)
      obtain⟨M,O,Q,Y,Z,W⟩:=jq6 (M.o.ext j) (O.o.ext j) (Q.o.ext j) (Y.o.ext j) (Z.o.ext j) (W.o.ext j)
      have ES:=jh (ES.o.ext j)
      obtain⟨t,n⟩:=xq2 t n j
      have m:=xxt m j
      clear j
      obtain⟨V,P,X⟩:=jq3 (Blk.made cn (ints .i64 (List.replicate 16 0)) 87) (Ext.alloc cn (.cells (ints .i64 (List.replicate 16 0)).toArray 87)) (zaf lz)
      have U:Hid ((ints .i64 z).length=(ints .i64 (List.replicate 16 0)).length):=jh (by rw[zaa,lz];rfl)
      go_upto_region 24 with(refine ssb cn.heap.size (ints .i64 z) V.o U.o X.o (zai _ _) ?_;intro ev C c)
      have l:=jh (zab P.o c (q101 _))
      obtain⟨ct,N⟩:=nxq cn.heap.size
      have fy:Hid (TS<ct):=jh (by rw[N];exact ES.o.lt)
      rw[←N]at C⊢
      obtain⟨x,y,D,E,F,I⟩:=jq6 (x.o.ext l.o) (y.o.ext l.o) (D.o.ext l.o) (E.o.ext l.o) (F.o.ext l.o) (I.o.ext l.o)
      obtain⟨M,O,Q,Y,Z,W⟩:=jq6 (M.o.ext l.o) (O.o.ext l.o) (Q.o.ext l.o) (Y.o.ext l.o) (Z.o.ext l.o) (W.o.ext l.o)
      have ES:=jh (ES.o.ext l.o)
      obtain⟨t,n⟩:=xq2 t n l.o
      have m:=xxt m l.o
      have a2:Hid (ElB ev ct (((q.x3 - q.z3)*(q.x2+q.z2)) - ((q.x3+q.z3)*(q.x2 - q.z2)))):=jh ⟨z,lz,C,J⟩
      have b:=jh (And.intro b.o fy.o)
      clear C c V P l N J X U lz
      obtain⟨zS,lS,bS,eS⟩:=ES.o
      obtain⟨fq,f0,gg,g5⟩:=jq4 bS eS lS (zaf lS)
      clear bS eS lS
      go_wp2_with (first|(refine slb TS fq.o Tryd.underlying87 g5.o ?_))
      refine(zcm ev f0.o f0.o).mono ?_
      rintro e gl ⟨r,rfl,J,j⟩
      obtain⟨z,hz,lz⟩:=J.form
      subst hz
      obtain⟨x,y,D,E,F,I⟩:=jq6 (x.o.ext j) (y.o.ext j) (D.o.ext j) (E.o.ext j) (F.o.ext j) (I.o.ext j)
      obtain⟨M,O,Q,Y,Z,W⟩:=jq6 (M.o.ext j) (O.o.ext j) (Q.o.ext j) (Y.o.ext j) (Z.o.ext j) (W.o.ext j)
      obtain⟨ES,a2⟩:=jq2 (ES.o.ext j) (a2.o.ext j)
      obtain⟨t,n⟩:=xq2 t n j
      have m:=xxt m j
      clear j
      obtain⟨ad,a3,ai,ak⟩:=E.o
      obtain⟨ay,bi,b6,be⟩:=jq4 ai ak a3 (zaf a3)
      clear ai ak a3
      have X:=jh (zaf lz)
      have U:Hid ((ints .i64 z).length=(ints .i64 ad).length):=jh (by rw[zaa,zaa,lz,b6.o])
      go_upto_region 25 with(refine ssb ae (ints .i64 z) ay.o U.o X.o (zai _ _) ?_;intro br C c)
      have x:=jh (x.o.grown c (by have:=b.o;simp;omega))
      have y:=jh (y.o.grown c (by have:=b.o;simp;omega))
      have D:=jh (D.o.grown c (by have:=b.o;simp;omega))
      have F:=jh (F.o.grown c (by have:=b.o;simp;omega))
      have I:=jh (I.o.grown c (by have:=b.o;simp;omega))
      have M:=jh (M.o.grown c (by have:=b.o;simp;omega))
      have O:=jh (O.o.grown c (by have:=b.o;simp;omega))
      have Q:=jh (Q.o.grown c (by have:=b.o;simp;omega))
      have Y:=jh (Y.o.grown c (by have:=b.o;simp;omega))
      have Z:=jh (Z.o.grown c (by have:=b.o;simp;omega))
      have W:=jh (W.o.grown c (by have:=b.o;simp;omega))
      have ES:=jh (ES.o.grown c (by have:=b.o;simp;omega))
      have a2:=jh (a2.o.grown c (by have:=b.o;simp;omega))
      have t:=jh (t.o.grown c (by have:=b.o;simp;omega))
      have n:=jh (n.o.grown c (by have:=b.o;simp;omega))
      have m:=jh (zab m.o c (by have:=b.o;omega))
      have E:Hid (ElB br ae ((((q.x3 - q.z3)*(q.x2+q.z2))+((q.x3+q.z3)*(q.x2 - q.z2)))*(((q.x3 - q.z3)*(q.x2+q.z2))+((q.x3+q.z3)*(q.x2 - q.z2))))):=jh ⟨z,lz,C,J⟩
      clear C c J X U lz
      obtain⟨ce,bo,cj,cc⟩:=x.o
      obtain⟨cv,co,db,cf⟩:=jq4 cj cc bo (zaf bo)
      clear cj cc bo
      obtain⟨ea,dk,eo,f6⟩:=a2.o
      obtain⟨e0,ey,gk,et⟩:=jq4 eo f6 dk (zaf dk)
      clear eo f6 dk
      obtain⟨ag,a4,aj,ah⟩:=F.o
      obtain⟨b8,bj,b7,bd⟩:=jq4 aj ah a4 (zaf a4)
      clear aj ah a4
      go_wp2_with fail
      try simp only[nm]
      go_cut [86]from 87 to 90 (fun vq wq=>∃wx,Ext br wx∧wx.grownBy wq (some a6)∧ElB wq a6 (a5*((((q.x3 - q.z3)*(q.x2+q.z2)) - ((q.x3+q.z3)*(q.x2 - q.z2)))*(((q.x3 - q.z3)*(q.x2+q.z2)) - ((q.x3+q.z3)*(q.x2 - q.z2))))))
      case first=>
       have B0:Ext br br.drew:=Ext.drew _
       refine wp_region_held_drew (S:=fun w'=>Far (a6) br w') (by kernel_rfl) (zao B0) (fun R=>?_)
       refine tke 0 (.agg (ints .i64 ce).toArray) rfl (sld bl 0 (fun w h=>zas cv.o (by have:=b.o;omega) h) Tryd.underlying87 cf.o) R ?_
       simp only[nm]
       refine tke 1 (.agg (ints .i64 ea).toArray) rfl (sld ct 0 (fun w h=>zas e0.o (by have:=b.o;omega) h) Tryd.underlying87 et.o) R ?_
       simp only[nm]
       refine tke 2 (.agg (ints .i64 ea).toArray) rfl (sld ct 0 (fun w h=>zas e0.o (by have:=b.o;omega) h) Tryd.underlying87 et.o) R ?_
       simp only[nm]
       refine rdy 3 rfl fun K H=>?_
       go_simp
       refine(zcm _ ey.o ey.o).mono ?_
       rintro e m1 ⟨v1,rfl,e1,b1⟩
       obtain⟨z1,ao,l1⟩:=e1.form
       subst ao
       have N1:Ext br m1:=B0.trans b1
       refine H.o _ _ (zao N1) (fun R=>?_)
       clear H K
       try simp only[nm]
       refine rdy 4 rfl fun K H=>?_
       go_simp
       refine(zcm _ co.o e1).mono ?_
       rintro e m2 ⟨v2,rfl,e2,b2⟩
       obtain⟨z2,ap,l2⟩:=e2.form
       subst ap
       have N2:Ext br m2:=N1.trans b2
       refine H.o _ _ (zao N2) (fun R=>?_)
       clear H K
       try simp only[nm]
       refine rdy 5 rfl fun K H=>?_
       refine zan (by rfl) ?_
       refine zaq _ _ _ rfl a6 (ints .i64 z2) rfl rfl _ _ (zal b8.o N2) (by rw[zaa,zaa,l2,b7.o]) (zaf l2) (zai _ _) ?_
       intro m3 g0 eu
       refine H.o _ _ (zbt N2 eu) (fun R=>?_)
       clear H K
       try simp only[nm]
       refine dne ?_
       go_wp2_with fail
       go_meet
       exact⟨_,N2,eu,⟨z2,l2,g0,e2⟩⟩
      case rest=>
       obtain⟨wx,G,c,bb⟩:=hcut
       obtain⟨x,y,D,E,F,I⟩:=jq6 (x.o.ext G) (y.o.ext G) (D.o.ext G) (E.o.ext G) (F.o.ext G) (I.o.ext G)
       obtain⟨M,O,Q,Y,Z,W⟩:=jq6 (M.o.ext G) (O.o.ext G) (Q.o.ext G) (Y.o.ext G) (Z.o.ext G) (W.o.ext G)
       obtain⟨ES,a2⟩:=jq2 (ES.o.ext G) (a2.o.ext G)
       obtain⟨t,n⟩:=xq2 t n G
       have m:=xxt m G
       have x:=jh (x.o.grown c (by have:=b.o;simp;omega))
       have y:=jh (y.o.grown c (by have:=b.o;simp;omega))
       have D:=jh (D.o.grown c (by have:=b.o;simp;omega))
       have E:=jh (E.o.grown c (by have:=b.o;simp;omega))
       have I:=jh (I.o.grown c (by have:=b.o;simp;omega))
       have M:=jh (M.o.grown c (by have:=b.o;simp;omega))
       have O:=jh (O.o.grown c (by have:=b.o;simp;omega))
       have Q:=jh (Q.o.grown c (by have:=b.o;simp;omega))
       have Y:=jh (Y.o.grown c (by have:=b.o;simp;omega))
       have Z:=jh (Z.o.grown c (by have:=b.o;simp;omega))
       have W:=jh (W.o.grown c (by have:=b.o;simp;omega))
       have ES:=jh (ES.o.grown c (by have:=b.o;simp;omega))
       have a2:=jh (a2.o.grown c (by have:=b.o;simp;omega))
       have t:=jh (t.o.grown c (by have:=b.o;simp;omega))
       have n:=jh (n.o.grown c (by have:=b.o;simp;omega))
       have m:=jh (zab m.o c (by have:=b.o;omega))
       have F:=jh bb
       clear bb G c
       generalize wc=fb at*
       obtain⟨dm,b9,bk,bh⟩:=M.o
       obtain⟨c7,cd,ej,c8⟩:=jq4 bk bh b9 (zaf b9)
       clear bk bh b9
       obtain⟨fs,bp,c3,c6⟩:=Q.o
       obtain⟨dr,dh,fu,dq⟩:=jq4 c3 c6 bp (zaf bp)
       clear c3 c6 bp
       go_wp2_with (first|(refine slb bw c7.o Tryd.underlying87 c8.o ?_)|(refine slb c4 dr.o Tryd.underlying87 dq.o ?_))
       refine(zcm fb cd.o dh.o).mono ?_
       rintro e gi ⟨r,rfl,J,j⟩
       obtain⟨z,hz,lz⟩:=J.form
       subst hz
       obtain⟨x,y,D,E,F,I⟩:=jq6 (x.o.ext j) (y.o.ext j) (D.o.ext j) (E.o.ext j) (F.o.ext j) (I.o.ext j)
       obtain⟨M,O,Q,Y,Z,W⟩:=jq6 (M.o.ext j) (O.o.ext j) (Q.o.ext j) (Y.o.ext j) (Z.o.ext j) (W.o.ext j)
       obtain⟨ES,a2⟩:=jq2 (ES.o.ext j) (a2.o.ext j)
       obtain⟨t,n⟩:=xq2 t n j
       have m:=xxt m j
       clear j
       obtain⟨af,a1,a8,ab⟩:=y.o
       obtain⟨am,bc,aw,ar⟩:=jq4 a8 ab a1 (zaf a1)
       clear a8 ab a1
       have X:=jh (zaf lz)
       have U:Hid ((ints .i64 z).length=(ints .i64 af).length):=jh (by rw[zaa,zaa,lz,aw.o])
       go_upto_region 27 with(refine ssb aa (ints .i64 z) am.o U.o X.o (zai _ _) ?_;intro bg C c)
       have x:=jh (x.o.grown c (by have:=b.o;simp;omega))
       have D:=jh (D.o.grown c (by have:=b.o;simp;omega))
       have E:=jh (E.o.grown c (by have:=b.o;simp;omega))
       have F:=jh (F.o.grown c (by have:=b.o;simp;omega))
       have I:=jh (I.o.grown c (by have:=b.o;simp;omega))
       have M:=jh (M.o.grown c (by have:=b.o;simp;omega))
       have O:=jh (O.o.grown c (by have:=b.o;simp;omega))
       have Q:=jh (Q.o.grown c (by have:=b.o;simp;omega))
       have Y:=jh (Y.o.grown c (by have:=b.o;simp;omega))
       have Z:=jh (Z.o.grown c (by have:=b.o;simp;omega))
       have W:=jh (W.o.grown c (by have:=b.o;simp;omega))
       have ES:=jh (ES.o.grown c (by have:=b.o;simp;omega))
       have a2:=jh (a2.o.grown c (by have:=b.o;simp;omega))
       have t:=jh (t.o.grown c (by have:=b.o;simp;omega))
       have n:=jh (n.o.grown c (by have:=b.o;simp;omega))
       have m:=jh (zab m.o c (by have:=b.o;omega))
       have y:Hid (ElB bg aa (((q.x2+q.z2)*(q.x2+q.z2))*((q.x2 - q.z2)*(q.x2 - q.z2)))):=jh ⟨z,lz,C,J⟩
       clear C c J X U lz
       obtain⟨e8,du,eb,ep⟩:=Y.o
       obtain⟨ef,ed,gn,ew⟩:=jq4 eb ep du (zaf du)
       clear eb ep du
       obtain⟨dm,b9,bk,bh⟩:=M.o
       obtain⟨c7,cd,ej,c8⟩:=jq4 bk bh b9 (zaf b9)
       clear bk bh b9
       obtain⟨al,a0,a9,ac⟩:=D.o
       obtain⟨an,bf,av,ax⟩:=jq4 a9 ac a0 (zaf a0)
       clear a9 ac a0
       go_wp2_with fail
       try simp only[nm]
       go_cut [94]from 95 to 100 (fun vq wq=>∃wx,Ext bg wx∧wx.grownBy wq (some a7)∧ElB wq a7 ((((q.x2+q.z2)*(q.x2+q.z2)) - ((q.x2 - q.z2)*(q.x2 - q.z2)))*(((q.x2+q.z2)*(q.x2+q.z2))+fp 121665*(((q.x2+q.z2)*(q.x2+q.z2)) - ((q.x2 - q.z2)*(q.x2 - q.z2))))))
       case first=>
        have B0:Ext bg bg.drew:=Ext.drew _
        refine wp_region_held_drew (S:=fun w'=>Far (a7) bg w') (by kernel_rfl) (zao B0) (fun R=>?_)
        refine tke 0 (.agg (ints .i64 e8).toArray) rfl (sld bz 0 (fun w h=>zas ef.o (by have:=b.o;omega) h) Tryd.underlying87 ew.o) R ?_
        simp only[nm]
        refine tke 1 (.agg (ints .i64 dm).toArray) rfl (sld bw 0 (fun w h=>zas c7.o (by have:=b.o;omega) h) Tryd.underlying87 c8.o) R ?_
        simp only[nm]
        refine tke 3 (.agg (ints .i64 e8).toArray) rfl (sld bz 0 (fun w h=>zas ef.o (by have:=b.o;omega) h) Tryd.underlying87 ew.o) R ?_
        simp only[nm]
        refine rdy 2 rfl fun K H=>?_
        go_simp
        refine(rone_f 121665 _ (by omega) (by omega)).mono ?_
        rintro e m1 ⟨v1,rfl,e1,b1⟩
        obtain⟨z1,ao,l1⟩:=e1.form
        subst ao
        have N1:Ext bg m1:=B0.trans b1
        refine H.o _ _ (zao N1) (fun R=>?_)
        clear H K
        try simp only[nm]
        refine rdy 4 rfl fun K H=>?_
        go_simp
        refine(zcm _ e1 ed.o).mono ?_
        rintro e m2 ⟨v2,rfl,e2,b2⟩
        obtain⟨z2,ap,l2⟩:=e2.form
        subst ap
        have N2:Ext bg m2:=N1.trans b2
        refine H.o _ _ (zao N2) (fun R=>?_)
        clear H K
        try simp only[nm]
        refine rdy 5 rfl fun K H=>?_
        go_simp
        refine(radd_f _ cd.o e2).mono ?_
        rintro e m3 ⟨v3,rfl,e3,b3⟩
        obtain⟨z3,g2,l3⟩:=e3.form
        subst g2
        have N3:Ext bg m3:=N2.trans b3
        refine H.o _ _ (zao N3) (fun R=>?_)
        clear H K
        try simp only[nm]
        refine rdy 6 rfl fun K H=>?_
        go_simp
        refine(zcm _ ed.o e3).mono ?_
        rintro e m4 ⟨v4,rfl,e4,b4⟩
        obtain⟨z4,fw,l4⟩:=e4.form
        subst fw
        have N4:Ext bg m4:=N3.trans b4
        refine H.o _ _ (zao N4) (fun R=>?_)
        clear H K
        try simp only[nm]
        refine rdy 7 rfl fun K H=>?_
        refine zan (by rfl) ?_
        refine zaq _ _ _ rfl a7 (ints .i64 z4) rfl rfl _ _ (zal an.o N4) (by rw[zaa,zaa,l4,av.o]) (zaf l4) (zai _ _) ?_
        intro m5 fl er
        refine H.o _ _ (zbt N4 er) (fun R=>?_)
        clear H K
        try simp only[nm]
        refine dne ?_
        go_wp2_with fail
        go_meet
        exact⟨_,N4,er,⟨z4,l4,fl,e4⟩⟩
       case rest=>
        obtain⟨wx,G,c,bb⟩:=hcut
        obtain⟨x,y,D,E,F,I⟩:=jq6 (x.o.ext G) (y.o.ext G) (D.o.ext G) (E.o.ext G) (F.o.ext G) (I.o.ext G)
        obtain⟨M,O,Q,Y,Z,W⟩:=jq6 (M.o.ext G) (O.o.ext G) (Q.o.ext G) (Y.o.ext G) (Z.o.ext G) (W.o.ext G)
        obtain⟨ES,a2⟩:=jq2 (ES.o.ext G) (a2.o.ext G)
        obtain⟨t,n⟩:=xq2 t n G
        have m:=xxt m G
        have x:=jh (x.o.grown c (by have:=b.o;simp;omega))
        have y:=jh (y.o.grown c (by have:=b.o;simp;omega))
        have E:=jh (E.o.grown c (by have:=b.o;simp;omega))
        have F:=jh (F.o.grown c (by have:=b.o;simp;omega))
        have I:=jh (I.o.grown c (by have:=b.o;simp;omega))
        have M:=jh (M.o.grown c (by have:=b.o;simp;omega))
        have O:=jh (O.o.grown c (by have:=b.o;simp;omega))
        have Q:=jh (Q.o.grown c (by have:=b.o;simp;omega))
        have Y:=jh (Y.o.grown c (by have:=b.o;simp;omega))
        have Z:=jh (Z.o.grown c (by have:=b.o;simp;omega))
        have W:=jh (W.o.grown c (by have:=b.o;simp;omega))
        have ES:=jh (ES.o.grown c (by have:=b.o;simp;omega))
        have a2:=jh (a2.o.grown c (by have:=b.o;simp;omega))
        have t:=jh (t.o.grown c (by have:=b.o;simp;omega))
        have n:=jh (n.o.grown c (by have:=b.o;simp;omega))
        have m:=jh (zab m.o c (by have:=b.o;omega))
        have D:=jh bb
        clear bb G c
        generalize wc=gj at*
        go_upto_region 28 with(fail)
        rcases em.o with j|j
        ·have hI:(bq:Int)=1:=by omega
         have hm:((bq:Int)==1)=true:=by rw[hI];rfl
         have dv:decide ((bq:Int)=1)=true:=by rw[hI];rfl
         have HG:Hid (lrun a5 (leN cl) (k+1)=(q.step a5).swap):=jh (by rw[HG.o,j];rfl)
         clear hI j
         go_upto_region 29 with(fail)
         obtain⟨af,a1,a8,ab⟩:=y.o
         obtain⟨am,bc,aw,ar⟩:=jq4 a8 ab a1 (zaf a1)
         clear a8 ab a1
         obtain⟨ad,a3,ai,ak⟩:=E.o
         obtain⟨ay,bi,b6,be⟩:=jq4 ai ak a3 (zaf a3)
         clear ai ak a3
         have b0:Hid ((ints .i64 ad).length=(ints .i64 af).length):=jh (by rw[zaa,zaa,aw.o,b6.o])
         have ba:Hid ((ints .i64 af).length=(ints .i64 ad).length):=jh (by rw[zaa,zaa,aw.o,b6.o])
         go_upto_region 30 with(first|(refine slb aa am.o Tryd.underlying87 ar.o ?_)|(refine slb ae ay.o Tryd.underlying87 be.o ?_)|(refine ssb aa (ints .i64 ad) am.o b0.o be.o (zai _ _) ?_;intro gc C c;have az:=jh (ay.o.grown c (by have:=b.o;simp;omega));have L:=jh c;have b5:=jh C;clear C c)|(refine ssb ae (ints .i64 af) az.o ba.o ar.o (zai _ _) ?_;intro ei C c))
         have x:=jh ((x.o.grown L.o (by have:=b.o;simp;omega)).grown c (by have:=b.o;simp;omega))
         have D:=jh ((D.o.grown L.o (by have:=b.o;simp;omega)).grown c (by have:=b.o;simp;omega))
         have F:=jh ((F.o.grown L.o (by have:=b.o;simp;omega)).grown c (by have:=b.o;simp;omega))
         have I:=jh ((I.o.grown L.o (by have:=b.o;simp;omega)).grown c (by have:=b.o;simp;omega))
         have M:=jh ((M.o.grown L.o (by have:=b.o;simp;omega)).grown c (by have:=b.o;simp;omega))
         have O:=jh ((O.o.grown L.o (by have:=b.o;simp;omega)).grown c (by have:=b.o;simp;omega))
         have Q:=jh ((Q.o.grown L.o (by have:=b.o;simp;omega)).grown c (by have:=b.o;simp;omega))
         have Y:=jh ((Y.o.grown L.o (by have:=b.o;simp;omega)).grown c (by have:=b.o;simp;omega))
         have Z:=jh ((Z.o.grown L.o (by have:=b.o;simp;omega)).grown c (by have:=b.o;simp;omega))
         have W:=jh ((W.o.grown L.o (by have:=b.o;simp;omega)).grown c (by have:=b.o;simp;omega))
         have ES:=jh ((ES.o.grown L.o (by have:=b.o;simp;omega)).grown c (by have:=b.o;simp;omega))
         have a2:=jh ((a2.o.grown L.o (by have:=b.o;simp;omega)).grown c (by have:=b.o;simp;omega))
         have t:=jh ((t.o.grown L.o (by have:=b.o;simp;omega)).grown c (by have:=b.o;simp;omega))
         have n:=jh ((n.o.grown L.o (by have:=b.o;simp;omega)).grown c (by have:=b.o;simp;omega))
         have m:=jh (zab (zab m.o L.o (by have:=b.o;omega)) c (by have:=b.o;omega))
         have y:Hid (ElB ei aa ((((q.x3 - q.z3)*(q.x2+q.z2))+((q.x3+q.z3)*(q.x2 - q.z2)))*(((q.x3 - q.z3)*(q.x2+q.z2))+((q.x3+q.z3)*(q.x2 - q.z2))))):=jh ⟨ad,b6.o,b5.o.grown c (by have:=b.o;simp;omega),bi.o⟩
         have E:Hid (ElB ei ae (((q.x2+q.z2)*(q.x2+q.z2))*((q.x2 - q.z2)*(q.x2 - q.z2)))):=jh ⟨af,aw.o,C,bc.o⟩
         clear C c L b5 az b0 ba
         obtain⟨al,a0,a9,ac⟩:=D.o
         obtain⟨an,bf,av,ax⟩:=jq4 a9 ac a0 (zaf a0)
         clear a9 ac a0
         obtain⟨ag,a4,aj,ah⟩:=F.o
         obtain⟨b8,bj,b7,bd⟩:=jq4 aj ah a4 (zaf a4)
         clear aj ah a4
         have b0:Hid ((ints .i64 ag).length=(ints .i64 al).length):=jh (by rw[zaa,zaa,av.o,b7.o])
         have ba:Hid ((ints .i64 al).length=(ints .i64 ag).length):=jh (by rw[zaa,zaa,av.o,b7.o])
         go_wp2_with (first|(refine slb a7 an.o Tryd.underlying87 ax.o ?_)|(refine slb a6 b8.o Tryd.underlying87 bd.o ?_)|(refine ssb a7 (ints .i64 ag) an.o b0.o bd.o (zai _ _) ?_;intro ge C c;have az:=jh (b8.o.grown c (by have:=b.o;simp;omega));have L:=jh c;have b5:=jh C;clear C c)|(refine ssb a6 (ints .i64 al) az.o ba.o ax.o (zai _ _) ?_;intro e9 C c))
         have x:=jh ((x.o.grown L.o (by have:=b.o;simp;omega)).grown c (by have:=b.o;simp;omega))
         have y:=jh ((y.o.grown L.o (by have:=b.o;simp;omega)).grown c (by have:=b.o;simp;omega))
         have E:=jh ((E.o.grown L.o (by have:=b.o;simp;omega)).grown c (by have:=b.o;simp;omega))
         have I:=jh ((I.o.grown L.o (by have:=b.o;simp;omega)).grown c (by have:=b.o;simp;omega))
         have M:=jh ((M.o.grown L.o (by have:=b.o;simp;omega)).grown c (by have:=b.o;simp;omega))
         have O:=jh ((O.o.grown L.o (by have:=b.o;simp;omega)).grown c (by have:=b.o;simp;omega))
         have Q:=jh ((Q.o.grown L.o (by have:=b.o;simp;omega)).grown c (by have:=b.o;simp;omega))
         have Y:=jh ((Y.o.grown L.o (by have:=b.o;simp;omega)).grown c (by have:=b.o;simp;omega))
         have Z:=jh ((Z.o.grown L.o (by have:=b.o;simp;omega)).grown c (by have:=b.o;simp;omega))
         have W:=jh ((W.o.grown L.o (by have:=b.o;simp;omega)).grown c (by have:=b.o;simp;omega))
         have ES:=jh ((ES.o.grown L.o (by have:=b.o;simp;omega)).grown c (by have:=b.o;simp;omega))
         have a2:=jh ((a2.o.grown L.o (by have:=b.o;simp;omega)).grown c (by have:=b.o;simp;omega))
         have t:=jh ((t.o.grown L.o (by have:=b.o;simp;omega)).grown c (by have:=b.o;simp;omega))
         have n:=jh ((n.o.grown L.o (by have:=b.o;simp;omega)).grown c (by have:=b.o;simp;omega))
         have m:=jh (zab (zab m.o L.o (by have:=b.o;omega)) c (by have:=b.o;omega))
         have D:Hid (ElB e9 a7 (a5*((((q.x3 - q.z3)*(q.x2+q.z2)) - ((q.x3+q.z3)*(q.x2 - q.z2)))*(((q.x3 - q.z3)*(q.x2+q.z2)) - ((q.x3+q.z3)*(q.x2 - q.z2)))))):=jh ⟨ag,b7.o,b5.o.grown c (by have:=b.o;simp;omega),bj.o⟩
         have F:Hid (ElB e9 a6 ((((q.x2+q.z2)*(q.x2+q.z2)) - ((q.x2 - q.z2)*(q.x2 - q.z2)))*(((q.x2+q.z2)*(q.x2+q.z2))+fp 121665*(((q.x2+q.z2)*(q.x2+q.z2)) - ((q.x2 - q.z2)*(q.x2 - q.z2)))))):=jh ⟨al,av.o,C,bf.o⟩
         clear C c L b5 az b0 ba
         go_roundw
         case rel=>exact⟨k+1,by omega,by go_num,x.o,(by rw[HG.o];exact y.o),(by rw[HG.o];exact D.o),(by rw[HG.o];exact E.o),(by rw[HG.o];have h:=F.o;rw[fp_lit]at h;exact h),t.o,n.o,m.o⟩
         case measure=>simp[intOf];omega
        have hI:(bq:Int)=0:=by omega
        have hm:((bq:Int)==1)=false:=by rw[hI];rfl
        have dv:decide ((bq:Int)=1)=false:=by rw[hI];rfl
        have HG:Hid (lrun a5 (leN cl) (k+1)=q.step a5):=jh (by rw[HG.o,j];rfl)
        clear hI j
        go_wp2_with fail
        go_roundw
        case rel=>exact⟨k+1,by omega,by go_num,x.o,(by rw[HG.o];exact y.o),(by rw[HG.o];have h:=D.o;rw[fp_lit]at h;exact h),(by rw[HG.o];exact E.o),(by rw[HG.o];exact F.o),t.o,n.o,m.o⟩
        case measure=>simp[intOf];omega
  have ff:k=255:=by omega
  subst ff
  have HF:Hid (nbF (s.x2*fi s.z2)=ladB kb ub):=jh (by rw[hs,g4.o,g1.o,ft.o];rfl)
  clear hs
  go_wp2_with fail
  obtain⟨af,a1,a8,ab⟩:=y.o
  obtain⟨am,bc,aw,ar⟩:=jq4 a8 ab a1 (zaf a1)
  clear a8 ab a1
  obtain⟨al,a0,a9,ac⟩:=D.o
  obtain⟨an,bf,av,ax⟩:=jq4 a9 ac a0 (zaf a0)
  clear a9 ac a0
  have B0:Ext wr wr.drew:=Ext.drew _
  refine wp_region_held_drew (S:=fun w'=>Far (A+1+1) wr w') (by kernel_rfl) (zao B0) (fun R=>?_)
  refine tke 0 (.agg (ints .i64 af).toArray) rfl (sld aa 0 (fun w h=>zas am.o (by have:=b.o;omega) h) Tryd.underlying87 ar.o) R ?_
  simp only[nm]
  refine tke 1 (.agg (ints .i64 al).toArray) rfl (sld a7 0 (fun w h=>zas an.o (by have:=b.o;omega) h) Tryd.underlying87 ax.o) R ?_
  simp only[nm]
  refine rdy 2 rfl fun K H=>?_
  go_simp
  refine(rinv_f _ bf.o).mono ?_
  rintro e m1 ⟨v1,rfl,e1,b1⟩
  obtain⟨z1,ao,l1⟩:=e1.form
  subst ao
  have N1:Ext wr m1:=B0.trans b1
  refine H.o _ _ (zao N1) (fun R=>?_)
  clear H K
  try simp only[nm]
  refine rdy 3 rfl fun K H=>?_
  go_simp
  refine(zcm _ bc.o e1).mono ?_
  rintro e m2 ⟨v2,rfl,e2,b2⟩
  obtain⟨z2,ap,l2⟩:=e2.form
  subst ap
  have N2:Ext wr m2:=N1.trans b2
  refine H.o _ _ (zao N2) (fun R=>?_)
  clear H K
  try simp only[nm]
  refine rdy 4 rfl fun K H=>?_
  go_simp
  refine(rout_f _ e2).mono ?_
  rintro e m3 ⟨rfl,b3⟩
  have N3:Ext wr m3:=N2.trans b3
  refine H.o _ _ (zao N3) (fun R=>?_)
  clear H K
  try simp only[nm]
  refine rdy 5 rfl fun K H=>?_
  refine zan (by rfl) ?_
  refine zaq _ _ _ rfl (A+1+1) ((nbF (s.x2*fi s.z2)).map bval) rfl rfl _ _ (zal n.o N3) (by rw[q100,zbw,zaa];rfl) (zag ((zbw _))) (zac _) ?_
  intro m4 c0 bx
  refine H.o _ _ (zbt N3 bx) (fun R=>?_)
  clear H K
  try simp only[nm]
  refine dne ?_
  go_wp2_with fail
  refine bodyPost_ret (zat rfl _ (A+1+1) _ _ _ _ rfl c0 Tryd.underlying23 (zag (zbw _))) rfl ?_
  exact⟨by rw[HF.o],zab (m.o.trans N3) bx (by have:=b.o;omega)⟩
theorem build_num(w:World):(Instr.build 23 #[]).run Tryd.prog w=.ok (.agg (zer.map bval).toArray) w:=by
 simp[Instr.build,Tryd.zeroValue23]
 rfl
theorem rladpub_any(k:List UInt8)(w:World)(l:k.length=32):Calls Tryd.prog 24 #[.agg (k.map bval).toArray] w fun e v=>e=.returned (.agg ((pubB k).map bval).toArray)∧Below w.heap.size w v:=by
 obtain⟨j,g⟩:=jq2 (boxes3 w (k.map bval) (ints .u8 (List.replicate 32 0)) (nineB.map bval) 23 23 23) l
 clear l
 go_enter Tryd.func24,Tryd.ntmps24
 go_upto_region 3 with(fail)
 obtain⟨d,a,c,b⟩:=j.o
 change Code.wp _ _ _ _ (((w.alloc (.cells (k.map bval).toArray 23)).alloc (.cells (ints .u8 (List.replicate 32 0)).toArray 23)).alloc (.cells (nineB.map bval).toArray 23))
 generalize ((w.alloc (.cells (k.map bval).toArray 23)).alloc (.cells (ints .u8 (List.replicate 32 0)).toArray 23)).alloc (.cells (nineB.map bval).toArray 23)=i at*
 obtain⟨A,h⟩:=nxq w.heap.size
 have q:Hid (w.heap.size≤A):=jh (by omega)
 rw[←h]at d a c⊢
 obtain⟨d,a,c⟩:=jq3 d a c
 have b:Hid (Ext w i):=jh b
 clear h j
 obtain⟨p,s⟩:=jq2 (zag g.o) (zag nineB_length)
 have m:Hid ((Tryd.prog.info? 23).map (·.size)=some ((pubB k).map bval).length):=jh (zag (ladB_length _ _))
 have x:Hid (((pubB k).map bval).length=(ints .u8 (List.replicate 32 0)).length):=jh (by rw[q100,zaa];exact ladB_length _ _)
 have n:=jh (rladder_any k nineB i g.o nineB_length)
 generalize nineB.map bval=B at*
 go_wp2_with (first|(refine slb A d.o Tryd.underlying23 p.o ?_)|(refine slb (A+1+1) c.o Tryd.underlying23 s.o ?_))
 refine n.o.mono ?_
 rintro e y ⟨rfl,f⟩
 have u:Hid (ladB k nineB=pubB k):=jh rfl
 rw[u.o]
 have a:=xxb a f
 have b:=xxt b f
 clear f n
 go_wp2_with (refine ssb (A+1) ((pubB k).map bval) a.o x.o m.o (zac _) ?_;intro z r t)
 refine bodyPost_ret (zat rfl _ (A+1) _ _ _ _ rfl r Tryd.underlying23 m.o) rfl ?_
 exact⟨rfl,zab b.o t (by have:=q.o;omega)⟩
theorem rshared_any(k u:List UInt8)(w:World)(L:k.length=32)(I:u.length=32):Calls Tryd.prog 43 #[.agg (k.map bval).toArray,.agg (u.map bval).toArray] w fun e Q=>e=.returned (.tuple #[.agg ((ladB k u).map bval).toArray,.int .i64 (shErr k u)])∧Below w.heap.size w Q:=by
 obtain⟨J,C,K⟩:=jq3 (boxes3 w (k.map bval) (u.map bval) (ints .u8 (List.replicate 32 0)) 23 23 23) L I
 clear L I
 go_enter Tryd.func43,Tryd.ntmps43
 go_upto_region 1 with(fail)
 obtain⟨i,h,a,b⟩:=J.o
 change Code.wp _ _ _ _ (((w.alloc (.cells (k.map bval).toArray 23)).alloc (.cells (u.map bval).toArray 23)).alloc (.cells (ints .u8 (List.replicate 32 0)).toArray 23))
 generalize ((w.alloc (.cells (k.map bval).toArray 23)).alloc (.cells (u.map bval).toArray 23)).alloc (.cells (ints .u8 (List.replicate 32 0)).toArray 23)=G at*
 obtain⟨A,F⟩:=nxq w.heap.size
 have r:Hid (w.heap.size≤A):=jh (by omega)
 rw[←F]at i h a⊢
 obtain⟨i,h,a⟩:=jq3 i h a
 have b:Hid (Ext w G):=jh b
 clear F J
 obtain⟨O,P⟩:=jq2 (zag C.o) (zag K.o)
 have g:Hid ((ladB k u).length=32):=jh (ladB_length _ _)
 have y:=jh (rladder_any k u G C.o K.o)
 obtain⟨z,j⟩:=nxq (ladB k u)
 have d:Hid (shErr k u=if z=zer then 21 else 0):=jh (by rw[j];rfl)
 rw[←j]at y g
 have M:=jh j
 clear j
 have c:=jh (zag g.o)
 have x:Hid ((z.map bval).length=(ints .u8 (List.replicate 32 0)).length):=jh (by rw[q100,zaa,g.o];rfl)
 go_wp2_with (first|(refine slb A i.o Tryd.underlying23 O.o ?_)|(refine slb (A+1) h.o Tryd.underlying23 P.o ?_))
 refine y.o.mono ?_
 rintro e l ⟨rfl,B⟩
 have a:=xxb a B
 have b:=xxt b B
 clear B y i h
 obtain⟨N,s,n⟩:=jq3 (Blk.made l (ints .u8 (List.replicate 32 0)) 23) (Ext.alloc l (.cells (ints .u8 (List.replicate 32 0)).toArray 23)) a.o.lt
 have a:=xxb a s.o
 have b:=xxt b s.o
 go_upto_region 2 with(refine ssb l.heap.size (z.map bval) N.o x.o c.o (zac _) ?_;intro T H t)
 have a:=jh (a.o.grown t (by have:=n.o;simp;omega))
 have b:=jh (zab b.o t (by have:=n.o;have:=r.o;omega))
 have E:=jh H
 generalize l.heap.size=D at*
 clear H t N s n
 have S:=build_num
 by_cases f:z=zer
 ·have d:Hid (shErr k u=21):=jh (by rw[d.o,if_pos f])
  have v:=jh (decide_eq_true f)
  clear f
  go_wp2_with (first|(refine wpList_eql (by rfl) _ _ _ _ _ _ 32 _ z zer true rfl (Or.inl ⟨rfl,v.o⟩) Tryd.underlying23 Tryd.underlying5 zdn zda zdl rfl rfl g.o zer_length ?_)|(refine slb D E.o Tryd.underlying23 c.o ?_)|(refine ssb (A+1+1) (z.map bval) a.o x.o c.o (zac _) ?_;intro R m q))
  refine bodyPost_ret (zaw (p:=4) (u:=5) (by rfl) _ (A+1+1) _ _ _ (by rfl) m Tryd.underlying23 rfl c.o) rfl ⟨by rw[d.o,←M.o];rfl,zab b.o q (by have:=r.o;omega)⟩
 have d:Hid (shErr k u=0):=jh (by rw[d.o,if_neg f])
 have v:=jh (decide_eq_false f)
 clear f
 go_wp2_with (first|(refine wpList_eql (by rfl) _ _ _ _ _ _ 32 _ z zer false rfl (Or.inl ⟨rfl,v.o⟩) Tryd.underlying23 Tryd.underlying5 zdn zda zdl rfl rfl g.o zer_length ?_)|(refine slb D E.o Tryd.underlying23 c.o ?_)|(refine ssb (A+1+1) (z.map bval) a.o x.o c.o (zac _) ?_;intro R m q))
 refine bodyPost_ret (zaw (p:=4) (u:=5) (by rfl) _ (A+1+1) _ _ _ (by rfl) m Tryd.underlying23 rfl c.o) rfl ⟨by rw[d.o,←M.o];rfl,zab b.o q (by have:=r.o;omega)⟩
theorem one_u8:(Tryd.prog.info? 5).map (·.size)=some 1:=by kernel_rfl
theorem hKey_long {k:List UInt8}(h:64<k.length):hKey k=sha256 k:=by
 unfold hKey
 rw[if_pos h]
def xTo(l:List UInt8)(c:UInt8)(i:Nat):List UInt8:=(l.take i).map (·^^^c)++l.drop i
theorem xTo_length(l:List UInt8)(c:UInt8)(i:Nat):(xTo l c i).length=l.length:=by
 unfold xTo
 rw[q102,q100,q106,q113]
 omega
theorem xTo_getD(l:List UInt8)(c:UInt8)(i:Nat)(h:i<l.length):(xTo l c i).getD i 0=l.getD i 0:=by
 unfold xTo
 have e:((l.take i).map (·^^^c)).length=i:=by rw[q100,q106];omega
 simp only[List.getD]
 rw[List.getElem?_append_right (by omega),e,Nat.sub_self,List.getElem?_drop,Nat.add_zero]
theorem xTo_set(l:List UInt8)(c:UInt8)(i:Nat)(h:i<l.length):(xTo l c i).set i (l.getD i 0^^^c)=xTo l c (i+1):=by
 unfold xTo
 have e:((l.take i).map (·^^^c)).length=i:=by rw[q100,q106];omega
 have a:l.getD i 0=l[i]:=by simp[List.getD,h]
 rw[List.set_append_right _ _ (by omega),e,Nat.sub_self,q139 h,List.set_cons_zero,a,q128 h,q104,q107]
 rfl
theorem xTo_zero(l:List UInt8)(c:UInt8):xTo l c 0=l:=by simp[xTo]
theorem xTo_full {l:List UInt8}(c:UInt8) {n:Nat}(h:l.length=n):xTo l c n=l.map (·^^^c):=by
 unfold xTo
 rw[q105 (by omega),List.drop_of_length_le (by omega),q123]
theorem rMac_any(kv bv:Value)(k m:List UInt8)(w:World)(hk:Row1 w kv (k.map bval))(hm:Row1 w bv (m.map bval))(G:k.length≤1099511627776)(bj:m.length≤1099511627712)(hG:GlobK w):
  Calls Tryd.prog 80 #[kv,bv] w fun e w'=>e=.returned (.agg ((hmac k m).map bval).toArray)∧Below w.heap.size w w':=by
 obtain⟨HK,HM,HG,b5,ah⟩:=jq5 hk hm hG G bj
 obtain⟨a,cd,rfl,r1,r2,r3,r4⟩:=id hk
 rw[q100]at r1 HK⊢
 unfold maxLen at r2
 obtain⟨U,z⟩:=jq2 (Blk.made w (ints .u8 (List.replicate 32 0)) 23) (Ext.alloc w (.cells (ints .u8 (List.replicate 32 0)).toArray 23))
 clear hk hm hG G bj r3 r4
 go_enter Tryd.func80,Tryd.ntmps80
 go_upto_if 12 with(fail)
 change Code.wp _ _ _ _ (w.alloc (.cells (ints .u8 (List.replicate 32 0)).toArray 23))
 generalize br:w.alloc (.cells (ints .u8 (List.replicate 32 0)).toArray 23)=w1 at*
 clear br
 go_cut [0,5]from 10 to 15 (fun v u5 wc=>∃(a':Option Addr) (n S:Nat),v=.slice a' n S∧n=(hKey k).length∧Row1 wc (.slice a' n S) ((hKey k).map bval)∧Blk wc w.heap.size (ints .u8 (List.replicate 32 0)) 23∧Ext w wc)
 case first=>
  by_cases ca:64<k.length
  ·have c5:(64:Int)<(k.length:Int):=by omega
   have a0:=hKey_long ca
   go_wp2_with fail
   refine(zdm _ k _ (HK.o.below z.o) b5.o (HG.o.ext z.o)).mono ?_
   rintro e f ⟨rfl,d⟩
   have a1:=xxt z d
   have i:=jh (U.o.same (d.block _ U.o.lt))
   clear d U z
   obtain⟨bm,b⟩:=jq2 a0 (zbg k)
   clear a0
   generalize sha256 k=o at*
   obtain⟨HZ,u⟩:=jq2 (Blk.made f (ints .u8 (List.replicate 32 0)) 23) (a1.o.trans (Ext.alloc f (.cells (ints .u8 (List.replicate 32 0)).toArray 23)))
   have cc:=jh (i.o.same ((Ext.alloc f (.cells (ints .u8 (List.replicate 32 0)).toArray 23)).block _ i.o.lt))
   have B:Hid ((Tryd.prog.info? 23).map (·.size)=some (o.map bval).length):=jh (zag b.o)
   have L:Hid ((o.map bval).length=(ints .u8 (List.replicate 32 0)).length):=jh (by rw[q100,b.o,zaa,q110])
   obtain⟨a7,c7⟩:=jq2 a1.o.size i.o.lt
   go_wp2_with (refine ssb f.heap.size (o.map bval) HZ.o L.o B.o (zac _) ?_;intro w7 a4 A)
   go_meet
   exact⟨_,_,_,rfl,by rw[bm.o,b.o],by rw[bm.o];exact zbv (n:=32) a4 (by rw[q100,b.o]) (by unfold maxLen;omega),cc.o.grown A (fun e=>by have h:=Option.some.inj e;have:=c7.o;omega),zab u.o A a7.o⟩
  have c5:¬(64:Int)<(k.length:Int):=by omega
  have a0:=hKey_small (k:=k) (by omega)
  go_wp2_with fail
  go_meet
  exact⟨_,_,_,rfl,by rw[a0],by rw[a0];exact HK.o.below z.o,U.o,z.o⟩
 case rest=>
  obtain⟨a',n,S,rfl,hn,ap,t,hE⟩:=hcut
  clear HK U z r1 r2 b5
  obtain⟨i0,K,E,H,Q⟩:=info_parts Tryd.info5
  have G:=hKey_length k
  have a6:=hPad_length G
  have ag:=splice_zeros 64 (hKey k)
  have hmac:hmac k m=sha256 (xTo (hPad (hKey k)) 0x5c 64++sha256 (xTo (hPad (hKey k)) 0x36 64++m)):=by
   rw[xTo_full 0x36 a6,xTo_full 0x5c a6]
   rfl
  have ao:(hKey k)++List.replicate (64 - (hKey k).length) 0=hPad (hKey k):=rfl
  rw[ao]at ag
  have c8:=jh hmac
  clear hmac ao
  generalize hPad (hKey k)=p at*
  generalize hKey k=q at*
  subst hn
  obtain⟨ad,aj,au,HR,Y,l⟩:=jq6 ag a6 G ap t hE
  obtain⟨HS,be⟩:=jq2 hE.size t.lt
  -- the two blocks
  have aq:=run_make_zeros wc 24 5 Tryd.underlying24 i0 K E H Q 64 (by omega)
  have am:=run_make_zeros (wc.alloc (.cells ((zB 64).map bval).toArray 5)) 24 5 Tryd.underlying24 i0 K E H Q 64 (by omega)
  rw[show ((64:Nat):Int)=64 from rfl]at aq am
  have i:=jh (boxes2 wc ((zB 64).map bval) ((zB 64).map bval) 5 5)
  clear ag a6 G ap t hE K E H Q
  go_upto_region 6 with(fail)
  change Code.wp _ _ _ _ ((wc.alloc (.cells ((zB 64).map bval).toArray 5)).alloc (.cells ((zB 64).map bval).toArray 5))
  clear aq am
  have a7:Hid ((wc.alloc (.cells ((zB 64).map bval).toArray 5)).heap.size=wc.heap.size+1):=jh (by simp)
  generalize (wc.alloc (.cells ((zB 64).map bval).toArray 5)).alloc (.cells ((zB 64).map bval).toArray 5)=f at*
  obtain⟨b1,b2,g⟩:=i.o
  have c9:=HR.o.below g
  have bp:=jh (row_src HR.o q (by rw[q125]) (q101 _) g)
  have HN:Hid ((q.map bval).length=Nat.min q.length 64):=jh (by rw[q100];exact(q134 au.o).symm)
  have HF:Hid (0+(q.map bval).length≤((zB 64).map bval).length):=jh (by rw[q100,q100,zB_length];have:=au.o;omega)
  obtain⟨I,P⟩:=nxq wc.heap.size
  have bk:=a7.o
  rw[←P]at b1 b2 g bk
  rw[←P]
  obtain⟨H1,H2⟩:=jq2 (b1:f.heap[I]? =some (.cells ((zB 64).map bval).toArray 5 (0,0))) b2
  have a1:Hid (Ext w f):=jh (l.o.trans (by rw[P]at g;exact g))
  have ax:Hid (Blk f w.heap.size (ints .u8 (List.replicate 32 0)) 23):=jh (Y.o.same (g.block _ (by have:=be.o;omega)))
  have c:Hid (w.heap.size<I):=jh (by have:=be.o;omega)
  have bi:Hid (Ext wc f):=jh (by rw[P]at g;exact g)
  have c6:=jh P
  clear b1 b2 g c9 i a7 bk l Y P
  have H1:Hid (Blk f I ((zB 64).map bval) 5):=jh H1.o
  go_upto_region 7 with(refine wpList_copy_blk rfl (.tmp 18) (.tmp 19) 24 24 rfl 5 Tryd.underlying24 one_u8 (some ⟨I,0,none⟩) a' 64 64 q.length S rfl rfl I 0 ((zB 64).map bval) 5 H1.o (q.map bval) HN.o (fun h=>⟨rfl,bp.o h⟩) HF.o (zac _) ?_;intro w3 af a2)
  rw[ad.o]at af
  have u:Hid (Ext w w3):=jh (zab a1.o a2 (by have:=c.o;omega))
  have bb:=jh (H2.o.grown a2 (fun e=>by have h:=Option.some.inj e;omega))
  have F:=jh (ax.o.grown a2 (fun e=>by have h:=Option.some.inj e;have:=c.o;omega))
  have b0:=jh (row_src HR.o q (by rw[q125]) (q101 _) (zab bi.o a2 (by rw[c6.o];exact q101 _)))
  have bf:Hid (Blk w3 I (p.map bval) 5):=jh af
  clear af a2 H1 H2 a1 ax bp bi HR
  simp only[nm]
  go_upto_region 8 with(refine wpList_copy_blk rfl (.tmp 21) (.tmp 22) 24 24 rfl 5 Tryd.underlying24 one_u8 (some ⟨I+1,0,none⟩) a' 64 64 q.length S rfl rfl (I+1) 0 ((zB 64).map bval) 5 bb.o (q.map bval) HN.o (fun h=>⟨rfl,b0.o h⟩) HF.o (zac _) ?_;intro s ac a3)
  simp only[nm]
  rw[ad.o]at ac
  have O:Hid (Ext w s):=jh (zab u.o a3 (by have:=c.o;omega))
  have bg:=jh (bf.o.grown a3 (fun e=>by have h:=Option.some.inj e;omega))
  have bc:Hid (Blk s (I+1) (p.map bval) 5):=jh ac
  have C:=jh (F.o.grown a3 (fun e=>by have h:=Option.some.inj e;have:=c.o;omega))
  clear ac a3 bf bb u F b0 HF HN ad
  go_wp2_with fail
  go_loopw [8] (fun iv wr=>∃(j:Nat),j≤64∧iv=.int .i64 (j:Int)∧Blk wr I ((xTo p 0x36 j).map bval) 5∧Blk wr (I+1) ((xTo p 0x5c j).map bval) 5∧Blk wr w.heap.size (ints .u8 (List.replicate 32 0)) 23∧Ext w wr) (fun iv _=>64 - (intOf iv).toNat)
  case atStart=>exact⟨0,by omega,rfl,by rw[xTo_zero];exact bg.o,by rw[xTo_zero];exact bc.o,C.o,O.o⟩
  case round=>
   clear bg bc C O
   obtain⟨j,hj,rfl,x,D,t,M⟩:=hrel
   have k0:(0:Int)≤(j:Int):=Int.natCast_nonneg _
   by_cases bz:j<64
   ·have k1:(j:Int)<64:=by omega
    have r:j<p.length:=by rw[aj.o];exact bz
    have c1:=x.cell j
    rw[zbf (by rw[xTo_length];exact r),xTo_getD p _ j r]at c1
    have c2:=D.cell j
    rw[zbf (by rw[xTo_length];exact r),xTo_getD p _ j r]at c2
    have f1:=x.free j
    have f2:=D.free j
    have x1:=xor_u8 (p.getD j 0) 0x36
    have x2:=xor_u8 (p.getD j 0) 0x5c
    rw[show (((0x36:UInt8).toNat:Nat):Int)=54 from rfl]at x1
    rw[show (((0x5c:UInt8).toNat:Nat):Int)=92 from rfl]at x2
    obtain⟨cb,bw,B1,X,BR,l⟩:=jq6 (xTo_set p 0x36 j r) (xTo_set p 0x5c j r) x D t M
    generalize bu:p.getD j 0^^^0x36=N at*
    generalize c3:p.getD j 0^^^0x5c=y2 at*
    clear x D t M bu c3
    obtain⟨y,hy⟩:=nxq (p.getD j 0)
    rw[←hy]at x1 x2 c1 c2
    have HY:=jh hy
    clear hy
    go_upto_region 12 with(fail)
    change Code.wp _ _ _ _ (wr.setCell ⟨I,j,none⟩ (bval N))
    have B1:Hid (Blk (wr.setCell ⟨I,j,none⟩ (bval N)) I ((xTo p 0x36 (j+1)).map bval) 5):=jh (by rw[←cb.o,List.map_set];exact B1.o.set j _)
    have X:=jh (X.o.far (a:=⟨I,j,none⟩) (by simp) (bval N))
    have BR:=jh (BR.o.far (a:=⟨I,j,none⟩) (by have:=c.o;simp;omega) (bval N))
    have l:Hid (Ext w (wr.setCell ⟨I,j,none⟩ (bval N))):=jh (Below.setCell l.o (by have:=c.o;simp;omega) _)
    generalize wr.setCell ⟨I,j,none⟩ (bval N)=ws at*
    have c2:=X.o.cell j
    rw[zbf (by rw[xTo_length];exact r),xTo_getD p _ j r,←HY.o]at c2
    have f2:=X.o.free j
    go_wp2_with fail
    go_roundw
    case rel=>
     refine⟨j+1,by omega,by go_num,B1.o.far (by simp) _,?_,BR.o.far (by have:=c.o;simp;omega) _,Below.setCell l.o (by have:=c.o;simp;omega) _⟩
     rw[←bw.o,List.map_set]
     exact X.o.set j _
    case measure=>simp[intOf];omega
   have c4:j=64:=by omega
   subst c4
   have V:((xTo p 0x36 64).map bval).length=64:=by rw[q100,xTo_length];exact aj.o
   have R:((xTo p 0x5c 64).map bval).length=64:=by rw[q100,xTo_length];exact aj.o
   have a8:=jh (own_blk (base:=I) x (q101 _) V (by unfold maxLen;omega))
   obtain⟨i,Y,l,HS⟩:=jq4 D t M M.size
   have b6:Hid (I≤wr.heap.size):=jh (Nat.le_of_lt x.lt)
   obtain⟨V,R,b4⟩:=jq3 V R (HM.o.below M)
   have bd:Hid ((m.map bval).length=m.length):=jh (q100 _)
   obtain⟨i0,K,E,H,Q⟩:=info_parts Tryd.info5
   obtain⟨bo,b8,b7,aw⟩:=jq4 K E H Q
   clear x D t M K E H Q
   go_wp2_with (at_builtin;refine zad rfl _ _ 24 rfl I 5 i0 (.int .u8 0) 1 Tryd.underlying24 bo.o b8.o b7.o aw.o rfl _ 64 _ rfl a8.o rfl b4.o (zac _) (by have:=ah.o;rw[bd.o];unfold maxLen;omega) (by have:=ah.o;rw[bd.o];omega) b6.o ?_;intro v3 w3 a9 J)
   have J:wr.grownBy w3 (some I):=J
   have u:=jh (zay l.o a8.o (by have:=c.o;omega) J)
   have ai:=jh (i.o.grown J (fun h=>by have:=Option.some.inj h;omega))
   have F:=jh (Y.o.grown J (fun h=>by have:=Option.some.inj h;have:=c.o;omega))
   rw[←q104]at a9
   refine(zdm _ (xTo p 0x36 64++m) _ (Row1.of_own a9) (by rw[q102];have:=V.o;rw[q100]at this;have:=ah.o;omega) (HG.o.ext u.o)).mono ?_
   rintro e s ⟨rfl,d⟩
   have O:=xxt u d
   have T:=jh (ai.o.same (d.block _ ai.o.lt))
   have C:=jh (F.o.same (d.block _ F.o.lt))
   have bq:Hid (I≤s.heap.size):=jh (by have:=T.o.lt;omega)
   clear d a9 J u ai F i Y l a8 V b4 HS
   have b:=jh (zbg (xTo p 0x36 64++m))
   generalize sha256 (xTo p 0x36 64++m)=o at*
   have HZ:=jh (Blk.made s (ints .u8 (List.replicate 32 0)) 23)
   have HA:=Ext.alloc s (.cells (ints .u8 (List.replicate 32 0)).toArray 23)
   have b9:=xxt O HA
   have az:=jh (T.o.same (HA.block _ T.o.lt))
   have ar:=jh (C.o.same (HA.block _ C.o.lt))
   have B:Hid ((Tryd.prog.info? 23).map (·.size)=some (o.map bval).length):=jh (zag b.o)
   have L:Hid ((o.map bval).length=(ints .u8 (List.replicate 32 0)).length):=jh (by rw[q100,b.o,zaa,q110])
   obtain⟨av,ba,bh⟩:=jq3 O.o.size C.o.lt T.o.lt
   go_upto_region 14 with(refine ssb s.heap.size (o.map bval) HZ.o L.o B.o (zac _) ?_;intro w7 a4 A)
   have ay:=jh (zab b9.o A av.o)
   have ak:=jh (az.o.grown A (fun h=>by have:=Option.some.inj h;have:=bh.o;omega))
   have bn:=jh (ar.o.grown A (fun h=>by have:=Option.some.inj h;have:=ba.o;omega))
   have an:=jh (zbv (n:=32) a4 (by rw[q100,b.o]) (by unfold maxLen;omega))
   have W:=jh (own_blk (base:=I+1) ak.o (q101 _) R.o (by unfold maxLen;omega))
   have bl:Hid (I+1≤w7.heap.size):=jh (by have:=ak.o.lt;omega)
   have al:Hid ((o.map bval).length=32):=jh (by rw[q100,b.o])
   generalize s.heap.size=g9 at*
   clear a4 A HZ HA T az C ar O b9 av ba bh bq b6 L
   go_wp2_with (at_builtin;refine zad rfl _ _ 24 rfl (I+1) 5 i0 (.int .u8 0) 1 Tryd.underlying24 bo.o b8.o b7.o aw.o rfl _ 64 _ rfl W.o rfl an.o (zac _) (by rw[al.o];unfold maxLen;omega) (by rw[al.o];omega) bl.o ?_;intro v8 w8 aa Z)
   have Z:w7.grownBy w8 (some (I+1)):=Z
   have ab:=jh (zay ay.o W.o (by have:=c.o;omega) Z)
   have ae:=jh (bn.o.grown Z (fun h=>by have:=Option.some.inj h;have:=c.o;omega))
   rw[←q104]at aa
   refine(zdm _ (xTo p 0x5c 64++o) _ (Row1.of_own aa) (by rw[q102,b.o];have:=R.o;rw[q100]at this;omega) (HG.o.ext ab.o)).mono ?_
   rintro e w9 ⟨rfl,d⟩
   have bt:=xxt ab d
   have c0:=jh (ae.o.same (d.block _ ae.o.lt))
   rw[←c8.o]
   clear d aa Z ab ae ay bn ak an W bl al B b R
   obtain⟨o2,a5⟩:=nxq (hmac k m)
   rw[←a5]
   have b:Hid (o2.length=32):=jh (by rw[a5];exact zbr k m)
   have W:=jh a5
   clear a5
   have B:Hid ((Tryd.prog.info? 23).map (·.size)=some (o2.map bval).length):=jh (zag b.o)
   have L:Hid ((o2.map bval).length=(ints .u8 (List.replicate 32 0)).length):=jh (by rw[q100,b.o,zaa,q110])
   go_wp2_with (refine ssb w.heap.size (o2.map bval) c0.o L.o B.o (zac _) ?_;intro ce bs bx)
   refine bodyPost_ret (zat rfl _ w.heap.size _ _ _ _ rfl bs Tryd.underlying23 B.o) rfl ?_
   exact⟨by rw[W.o],zab bt.o bx (q101 _)⟩
theorem usome:(Tryd.prog.underlying 3).isSome=true:=by kernel_rfl
theorem hkT_le(k a:List UInt8)(j:Nat):(hkT k a j).length≤32:=by
 cases j with
 |zero=>simp[hkT]
 |succ j=>rw[hkT_length];omega
end Go.Proofs.YtgnfdonbholcdaaDoor


