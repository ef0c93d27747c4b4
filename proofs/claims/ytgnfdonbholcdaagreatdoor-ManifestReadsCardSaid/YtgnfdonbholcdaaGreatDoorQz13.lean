/- Lemmas. -/
import Derived.Test.YtgnfdonbholcdaaGreatDoorQz12
namespace Go.Proofs.YtgnfdonbholcdaaGreatDoor
set_option linter.unusedVariables false
set_option maxRecDepth 100000
set_option maxHeartbeats 32000000
set_option linter.unusedSimpArgs false
open Go.RowKit
theorem rSeal_any(a nb p s:List UInt8)(D H:Value)(w:World)(u:a.length=32)(q:nb.length=12)(F:Row1 w D (p.map bval))(W:Row1 w H (s.map bval))(G:p.length≤1000000000)(a1:s.length≤1000000000):
  Calls Tryz.prog 97 #[.agg (a.map bval).toArray,.agg (nb.map bval).toArray,D,H] w fun e v=>∃x,e=.returned x∧v.ownsRow w.heap.size 5 1 x (p.length+16) ((sealB a nb p s).map bval)∧Below w.heap.size w v:=by
 obtain⟨i0,P,y,J,K⟩:=info_parts Tryz.info5
 obtain⟨a6,a3,ac,a8,a7,ae⟩:=jq6 P y J K F W
 obtain⟨l,ad,I⟩:=jq3 G a1 (boxes2 w (a.map bval) (nb.map bval) 23 145)
 have M:Hid ((Tryz.prog.info? 23).map (·.size)=some (a.map bval).length):=jh (zaf u)
 have C:Hid ((Tryz.prog.info? 145).map (·.size)=some (nb.map bval).length):=jh (nonce_size q)
 obtain⟨V,a2⟩:=jq2 u q
 clear P y J K F W u q G a1
 go_enter Tryz.func97,Tryz.ntmps97
 go_upto_region 1 with(fail)
 obtain⟨f,d,b⟩:=I.o
 change Code.wp _ _ _ _ ((w.alloc (.cells (a.map bval).toArray 23)).alloc (.cells (nb.map bval).toArray 145))
 generalize (w.alloc (.cells (a.map bval).toArray 23)).alloc (.cells (nb.map bval).toArray 145)=S at*
 obtain⟨A,R⟩:=nxq w.heap.size
 have af:Hid (w.heap.size≤A):=jh (by omega)
 rw[←R]at f d⊢
 obtain⟨f,d⟩:=jq2 f d
 have b:Hid (Ext w S):=jh b
 clear R I
 go_wp2_with (first|(refine slb A f.o q102 M.o ?_)|(refine slb (A+1) d.o q170 C.o ?_))
 refine(rTurn_any a nb p _ 1 S V.o a2.o (a7.o.below b.o) (by have:=l.o;omega) (by decide) (by decide)).mono ?_
 rintro e X ⟨x1,rfl,E,m⟩
 have t:Hid (X.ownsRow w.heap.size 5 1 x1 p.length ((chaTurn a 1 nb p).map bval)):=jh (zbv E b.o.size)
 obtain⟨f,d⟩:=xq2 f d m
 have b:=xxt b m
 clear E m
 have a5:=jh (chaTurn_length a 1 nb p)
 have aa:Hid (sealB a nb p s=chaTurn a 1 nb p++aeaTag a nb (chaTurn a 1 nb p) s):=jh rfl
 generalize chaTurn a 1 nb p=c at*
 go_wp2_with (first|(refine slb A f.o q102 M.o ?_)|(refine slb (A+1) d.o q170 C.o ?_))
 refine(rTag_any a nb c s _ _ X V.o a2.o (Row1.of_own t.o) (ae.o.below b.o) (by rw[a5.o];exact l.o) ad.o).mono ?_
 rintro e i ⟨rfl,k⟩
 have b:=xxt b k
 have L:=jh (zbn t.o k)
 clear k t f d
 have g:=jh (aeaTag_length a nb c s)
 generalize aeaTag a nb c s=j at*
 obtain⟨O,Q⟩:=jq2 (Blk.made i (ints .u8 (List.replicate 16 0)) 179) (Ext.alloc i (.cells (ints .u8 (List.replicate 16 0)).toArray 179))
 have a4:Hid ((Tryz.prog.info? 179).map (·.size)=some (j.map bval).length):=jh (tag_size g.o)
 have Z:Hid ((j.map bval).length=(ints .u8 (List.replicate 16 0)).length):=jh (by rw[q100,g.o,zaa,q112])
 go_upto_region 3 with(refine ssb i.heap.size (j.map bval) O.o Z.o a4.o (zac _) ?_;intro w3 r N)
 have h:=jh (zab Q.o N (q101 _))
 have a0:=jh (zbn L.o h.o)
 have b:=xxt b h.o
 obtain⟨T,z⟩:=nxq i.heap.size
 rw[←z]at r⊢
 have a9:=jh (zbz (n:=16) r (by rw[q100,g.o]) (by unfold maxLen;omega))
 clear r N O Q h Z z L
 have B:Hid (p.length+(j.map bval).length≤1000000100):=jh (by rw[q100,g.o];have:=l.o;omega)
 go_wp2_with (at_builtin;refine zad rfl _ _ 24 rfl w.heap.size 5 i0 (.int .u8 0) 1 q104 a6.o a3.o ac.o a8.o rfl _ _ _ rfl a0.o rfl a9.o (zac _) (by have:=B.o;unfold maxLen;omega) (by have:=B.o;omega) b.o.size ?_;intro v4 w4 Y U)
 have h:=jh (zbf b.o a0.o (q101 _) U)
 have ab:Hid (w4.ownsRow w.heap.size 5 1 v4 (p.length+16) ((sealB a nb p s).map bval)):=jh (zcp Y (by rw[q100,g.o]) (by rw[aa.o,q110]))
 clear Y U
 go_ret
 exact⟨_,rfl,ab.o,h.o⟩
/-- The document's own One: a number's bytes. -/
theorem rone_any(n:Int)(w:World):
  Calls Tryz.prog 49 #[.int .i64 n] w fun e w'=>∃v,e=.returned v∧w'.ownsRow w.heap.size 5 1 v 8 ((zbi n).map bval)∧Below w.heap.size w w':=by
 have h:=jh (rint_any (w.alloc (.cells #[.int .i64 n] 3)) (bl:=[]) (ns:=[n]) (Row1.nil _) (Row1.made w #[.int .i64 n] 3 _ 1 [.int .i64 n] rfl rfl rfl (by unfold maxLen;omega):Row1 _ _ ([n].map (.int .i64))) (by simp))
 go_enter Tryz.func49,Tryz.ntmps49
 go_wp2_with fail
 refine(h.o).mono ?_
 rintro e w' ⟨v,rfl,hown,hbel⟩
 have hown2:w'.ownsRow w.heap.size 5 1 v 8 ((zbi n).map bval):=by
  have:(([]:List UInt8)++be8s [n])=zbi n:=by simp[be8s]
  rw[this]at hown
  obtain⟨g1,g2⟩:=hown
  refine⟨g1,?_⟩
  rcases g2 with⟨g3,g4⟩|⟨g,cap,cur,r1,r2,r3⟩
  ·exact Or.inl ⟨g3,g4⟩
  exact Or.inr ⟨g,cap,cur,r1,by simp at r2;omega,r3⟩
 have hbel2:Below w.heap.size w w':=((Below.refl w.heap.size w).alloc (q101 _) _).trans (hbel.mono (by simp))
 clear hown hbel
 obtain⟨HO,HB⟩:=jq2 hown2 hbel2
 clear hown2 hbel2
 go_wp2_with fail
 go_ret
 exact⟨_,rfl,HO.o,HB.o⟩
def setC(r s d k:List UInt8):List Value:=r.map bval++(s.map bval++(d.map bval++k.map bval))
theorem zee {r s d k:List UInt8}(a:r.length=32)(e:s.length=32)(b:d.length=32)(c:k.length=32):(setC r s d k).length=128:=by
 unfold setC
 simp only[q105,q100,a,e,b,c]
theorem set_size {r s d k:List UInt8}(a:r.length=32)(e:s.length=32)(b:d.length=32)(c:k.length=32):(Tryz.prog.info? 53).map (·.size)=some (setC r s d k).length:=by
 rw[zee a e b c]
 kernel_rfl
theorem set_parts {w:World} {c:Nat} {r s d k:List UInt8} {t:TypeId}(h:Blk w c (setC r s d k) t)(e:r.length=32)(a:s.length=32)(b:d.length=32):w.rangeAt c 0 (r.map bval)∧w.rangeAt c 32 (s.map bval)∧w.rangeAt c 64 (d.map bval)∧w.rangeAt c 96 (k.map bval):=by
 have h0:w.rangeAt c 0 (r.map bval++(s.map bval++(d.map bval++k.map bval))):=h.range
 have h1:w.rangeAt c 32 (s.map bval++(d.map bval++k.map bval)):=rng_hi h0 (by rw[q100,e]) rfl
 have h2:w.rangeAt c 64 (d.map bval++k.map bval):=rng_hi h1 (by rw[q100,a]) rfl
 exact⟨rng_lo h0,rng_lo h1,rng_lo h2,rng_hi h2 (by rw[q100,b]) rfl⟩
def z12:List UInt8:=List.replicate 12 0
theorem z12_length:z12.length=12:=by simp[z12]
theorem lay_non(i:Int):splice (z12.map bval) 4 ((zbi i).map bval)=(([0,0,0,0]++zbi i:List UInt8)).map bval:=by
 have h:=splice_mid (pre:=([0,0,0,0]:List UInt8).map bval) (mid:=(List.replicate 8 (0:UInt8)).map bval) (post:=[]) (new:=(zbi i).map bval) (by rw[q100,q100,zcg];rfl)
 rw[q110]
 simpa[z12]using h
theorem rnonce_any(i:Int)(w:World):Calls Tryz.prog 137 #[.int .i64 i] w fun e A=>e=.returned (.agg ((([0,0,0,0]++zbi i:List UInt8)).map bval).toArray)∧Below w.heap.size w A:=by
 have u:=jh (boxes2 w (z12.map bval) (z12.map bval) 145 145)
 go_enter Tryz.func137,Tryz.ntmps137
 go_upto_region 2 with(fail)
 obtain⟨h1,h2,s⟩:=u.o
 change Code.wp _ _ _ _ ((w.alloc (.cells (z12.map bval).toArray 145)).alloc (.cells (z12.map bval).toArray 145))
 generalize (w.alloc (.cells (z12.map bval).toArray 145)).alloc (.cells (z12.map bval).toArray 145)=m at*
 obtain⟨N,x⟩:=nxq (w.heap.size+1)
 rw[←x]at h2⊢
 obtain⟨R,y⟩:=nxq w.heap.size
 rw[←y]at h1⊢
 have j:Hid (R<N∧w.heap.size=R):=jh (by omega)
 have a:Hid (Ext w m):=jh s
 obtain⟨d,c⟩:=jq2 h1 h2
 clear x y u h1 h2 s
 refine wp_region_held_drew (S:=fun _=>True) (by kernel_rfl) trivial (fun b=>?_)
 refine tke 0 (.slice (some ⟨N,4,none⟩) 8 8) rfl (zaz (.slice (some ⟨N,4,none⟩) 8 8) (by rfl) (fun w _=>by go_simp)) b ?_
 simp only[nm]
 refine tke 1 (.int .i64 i) rfl (zbe _ (.int .i64 i) (by rfl) rfl rfl) b ?_
 simp only[nm]
 refine wpAnyH_ready (rs:=[2]) (by kernel_rfl) (by simp) (AllReadyH.cons rfl (fun K0 f=>?_) AllReadyH.nil)
 go_simp
 refine(rone_any i m.drew).mono ?_
 rintro e D ⟨H,rfl,q,r⟩
 have n:=Row1.of_own q
 obtain⟨G,E,v,_⟩:=id n
 rw[q100,zcg]at v
 subst v
 obtain⟨t,l⟩:=jq2 n ((Ext.drew m).trans r)
 obtain⟨d,c⟩:=xq2 d c l.o
 have a:=xxt a l.o
 clear n q r l
 refine f.o _ _ trivial (fun b=>?_)
 clear f K0
 try simp only[nm]
 refine wpAnyH_ready (rs:=[3]) (by kernel_rfl) (by simp) (AllReadyH.cons rfl (fun K0 f=>?_) AllReadyH.nil)
 refine zan (by rfl) ?_
 refine zbu _ _ 24 24 rfl 5 q104 one_u8m _ _ _ _ _ _ rfl rfl N 4 _ _ c.o ((zbi i).map bval) (by rw[q100,zcg];rfl) (fun h=>⟨rfl,row_src t.o (zbi i) (by rw[q133]) (q101 _) (Ext.refl _) h⟩) (by rw[q100,q100,zcg,z12_length];omega) (zac _) ?_
 intro wc k p
 rw[lay_non]at k
 have c:=jh k
 have d:=jh (d.o.grown p (by have:=j.o;simp;omega))
 have a:=jh (zab a.o p (by have:=j.o;omega))
 clear k p t
 refine f.o _ _ trivial (fun b=>?_)
 clear f K0 b
 try simp only[nm]
 refine dne ?_
 have z:Hid (([0,0,0,0]++zbi i:List UInt8).length=12):=jh rfl
 have g:=jh (nonce_size z.o)
 go_wp2_with (first|(refine slb N c.o q170 g.o ?_)|(refine ssb R ((([0,0,0,0]++zbi i:List UInt8)).map bval) d.o (by rw[q100,q100,z.o,z12_length]) g.o (zac _) ?_;intro F C B))
 refine bodyPost_ret (zam rfl _ R _ _ _ _ rfl C q170 g.o) rfl ?_
 exact⟨rfl,zab a.o B (by have:=j.o;omega)⟩
theorem rSealBlock_any(key:List UInt8)(ver:Int)(i:Nat)(p:List UInt8)(l:Value)(w:World)(v:key.length=32)(M:smallB ver=true)(hi:i≤31)(g:Row1 w l (p.map bval))(I:p.length=64):
  Calls Tryz.prog 94 #[.agg (key.map bval).toArray,.int .i64 ver,.int .i64 (i:Int),l] w fun e n=>∃x,e=.returned (.tuple #[x,.int .i64 0])∧n.ownsRow w.heap.size 5 1 x 80 ((blkS key ver i p).map bval)∧Below w.heap.size w n:=by
 obtain⟨a,V,s,_⟩:=id g
 rw[q100]at s
 obtain⟨N,H⟩:=nxq p.length
 rw[←H]at s
 subst s
 obtain⟨Z,E,Y,F,D⟩:=jq5 v I (zaf v) g (And.intro (Blk.made w (key.map bval) 23) (Ext.alloc w (.cells (key.map bval).toArray 23)))
 go_enter Tryz.func94,Tryz.ntmps94
 go_upto_region 1 with(fail)
 obtain⟨h0,y⟩:=D.o
 change Code.wp _ _ _ _ (w.alloc (.cells (key.map bval).toArray 23))
 generalize w.alloc (.cells (key.map bval).toArray 23)=c at*
 obtain⟨A,J⟩:=nxq w.heap.size
 rw[←J]at h0⊢
 have Q:=jh h0
 have t:Hid (Ext w c):=jh y
 have C:Hid (w.heap.size=A):=jh (by omega)
 clear D y h0 J
 have P:=jh (F.o.below t.o)
 have X:N=64:=by omega
 subst X
 have R:decide ((i:Int)<0)=false:=decide_eq_false (by omega)
 have a0:decide ((31:Int)<(i:Int))=false:=decide_eq_false (by omega)
 clear H v g I F
 go_wp2_with fail
 refine(rsmall_q ver true c M).mono ?_
 rintro e w3 ⟨rfl,rfl⟩
 clear M
 go_upto_region 3 with(fail)
 clear R a0
 generalize s:Value.slice a 64 V=l at*
 have z:Ext c c.drew:=Ext.drew _
 refine wp_region_held_drew (S:=fun n=>Ext c n) (by kernel_rfl) z (fun q=>?_)
 refine tke 0 (.agg ((key).map bval).toArray) rfl (sld A 0 (fun w h=>zax Q.o h) q102 Y.o) q ?_
 simp only[nm]
 refine tke 1 (.int .i64 (i:Int)) rfl (zbe _ (.int .i64 (i:Int)) (by rfl) rfl rfl) q ?_
 simp only[nm]
 refine tke 3 l rfl (zbe _ (l) (by rfl) rfl rfl) q ?_
 simp only[nm]
 refine tke 4 (.int .i64 ver) rfl (zbe _ (.int .i64 ver) (by rfl) rfl rfl) q ?_
 simp only[nm]
 refine wpAnyH_rel (B:=c) [(2,some 28,.is (.agg ((nonB i).map bval).toArray)),(5,some 31,.row ((zbi ver).map bval)),(6,some 32,.own c.heap.size 5 80 ((blkS key ver i p).map bval) 7),(7,some 8,.own c.heap.size 5 80 ((blkS key ver i p).map bval) 9),(8,some 9,.is (.int .i64 0))] z (fun u=>?_) (fun u W G g=>?_)
 ·simp only[putsR,Act.put,List.setIfInBounds_toArray,q150,q152]
  refine RelOb.cons rfl rfl (fun d K k j f=>?_) ?_
  ·go_simp
   have h:=rnonce_any (i:Int) d
   rw[nonB_is]at h
   refine h.mono ?_
   rintro e m ⟨rfl,b⟩
   exact f.o _ _ (Or.inl b) ⟨rfl,fun h=>by cases h⟩
  refine RelOb.cons rfl rfl (fun d K k j f=>?_) ?_
  ·go_simp
   refine(rone_any ver d).mono ?_
   rintro e m ⟨x,rfl,o,b⟩
   exact f.o _ _ (Or.inl b) ⟨Row1.of_own o,fun h=>by cases h⟩
  refine RelOb.cons rfl rfl (fun d K k j f=>?_) ?_
  ·have h2:u 2=.agg ((nonB i).map bval).toArray:=(j 2 (by kernel_rfl)).1
   have U:Row1 d (u 5) ((zbi ver).map bval):=(j 5 (by kernel_rfl)).1
   have h:=rSeal_any key (nonB i) p (zbi ver) _ _ d Z.o (nonB_length i) (P.o.below k) U (by rw[E.o];decide) (by rw[zcg];decide)
   rw[←h2]at h
   clear h2
   go_simp
   refine h.mono ?_
   rintro e m ⟨x,rfl,o,b⟩
   rw[blkS_is,E.o]at o
   have L:m.ownsRow c.heap.size 5 1 x 80 ((blkS key ver i p).map bval):=zbv o k.size
   exact f.o _ _ (Or.inl b) ⟨Row1.of_own L,fun _=>L⟩
  refine RelOb.cons rfl rfl (fun d K k j f=>?_) ?_
  ·have h0:=j 6 (by kernel_rfl)
   have r:Row1 d (u 6) ((blkS key ver i p).map bval):=h0.1
   exact ob_assign _ (u 6) (f.o _ _ (Or.inl (Ext.refl _)) ⟨r,fun _=>h0.2 rfl⟩) (by rfl) rfl rfl rfl
  refine RelOb.cons rfl rfl (fun d K k j f=>?_) ?_
  ·exact ob_assign _ (.int .i64 0) (f.o _ _ (Or.inl (Ext.refl _)) ⟨rfl,fun h=>by cases h⟩) (by rfl) rfl rfl rfl
  exact RelOb.nil
 simp only[putsR,Act.put,List.setIfInBounds_toArray,q150,q152]
 have C:Hid (W.ownsRow c.heap.size 5 1 (u 7) 80 ((blkS key ver i p).map bval)):=jh ((g 7).2 9 rfl (by decide))
 have O:u 8=.int .i64 0:=(g 8).1
 have T:=jh G
 clear g G
 rw[O]
 generalize u 7=x at*
 go_wp2_with fail
 refine bodyPost_ret (zdk rfl _ _) rfl ?_
 exact⟨x,rfl,zbv C.o t.o.size,t.o.trans T.o⟩
theorem rKeyOf_any(r s d k:List UInt8)(ver:Int)(w:World)(Q:r.length=32)(O:s.length=32)(L:d.length=32)(t:k.length=32)(G:GlobK w):
  Calls Tryz.prog 50 #[.agg (setC r s d k).toArray,.int .i64 ver] w fun e U=>e=.returned (.agg ((keyOf k ver).map bval).toArray)∧Below w.heap.size w U:=by
 obtain⟨N,I,v,D,H⟩:=info_parts Tryz.info5
 obtain⟨C,u,T,E⟩:=jq4 I v D H
 clear I v D H
 obtain⟨g,HG,B⟩:=jq3 t G (boxes2 w (setC r s d k) (z32.map bval) 53 23)
 go_enter Tryz.func50,Tryz.ntmps50
 go_upto_region 1 with(fail)
 obtain⟨h0,h1,x⟩:=B.o
 change Code.wp _ _ _ _ ((w.alloc (.cells (setC r s d k).toArray 53)).alloc (.cells (z32.map bval).toArray 23))
 generalize (w.alloc (.cells (setC r s d k).toArray 53)).alloc (.cells (z32.map bval).toArray 23)=f at*
 obtain⟨R,J⟩:=nxq (w.heap.size+1)
 rw[←J]at h1⊢
 obtain⟨A,K⟩:=nxq w.heap.size
 rw[←K]at h0⊢
 obtain⟨m,q⟩:=jq2 h0 h1
 have c:Hid (Ext w f):=jh x
 have X:Hid (w.heap.size=A∧A<R):=jh (by omega)
 clear B x h0 h1 K J
 have z:=jh (row_rng (n:=32) (set_parts m.o Q O L).2.2.2 m.o.lt (by rw[q100,t]) (by unfold maxLen;omega))
 have hcut:=fun w=>zdb (P:=Tryz.prog) q102 q111 (by omega) A 96 w
 clear Q O L t G m
 go_wp2_with (at_builtin;refine zad rfl _ _ 24 rfl f.heap.size 5 N (.int .u8 0) 1 q104 C.o u.o T.o E.o rfl (.slice none 0 0) 0 [] rfl (World.ownsRow_nil _ _ _ _) rfl z.o (zac _) (by rw[q100,g.o];unfold maxLen;omega) (by rw[q100,g.o];omega) (q101 _) ?_;intro Z w2 l F)
 have a:=jh (zbf (Ext.refl f) (World.ownsRow_nil _ _ 5 _) (q101 _) F)
 rw[q115,q117,q100,g.o]at l
 have b:=jh l
 clear l F z
 refine(rone_any ver w2).mono ?_
 rintro e w3 ⟨ov,rfl,S,h⟩
 obtain⟨b,a,HY⟩:=jq3 (zbn b.o h) (a.o.trans h) (Row1.of_own S)
 clear S h
 go_wp2_with (at_builtin;refine zad rfl _ _ 24 rfl f.heap.size 5 N (.int .u8 0) 1 q104 C.o u.o T.o E.o rfl Z 32 _ rfl b.o rfl HY.o (zac _) (by rw[q100,zcg];unfold maxLen;omega) (by rw[q100,zcg];omega) a.o.size ?_;intro Y W j M)
 have a:=jh (zbf a.o b.o (q101 _) M)
 rw[←q110]at j
 have p:=jh (zdp Y (k++zbi ver) W (Row1.of_own j) (by rw[q105,g.o,zcg];decide) (HG.o.ext (c.o.trans a.o)))
 rw[keyOf_is]at p
 clear j M
 refine p.o.mono ?_
 rintro e w5 ⟨rfl,i⟩
 obtain⟨q,c,y⟩:=jq3 (zak q.o (a.o.trans i)) (c.o.trans (a.o.trans i)) (zaf (keyOf_length k ver))
 clear i p hcut
 go_wp2_with (refine ssb R ((keyOf k ver).map bval) q.o (by rw[q100,q100,keyOf_length,zbk]) y.o (zac _) ?_;intro w9 V a0)
 refine bodyPost_ret (zam rfl _ R _ _ _ _ rfl V q102 y.o) rfl ?_
 exact⟨rfl,zab c.o a0 (by have:=X.o;omega)⟩
section
theorem rhalf_any(n:Nat)(w:World)(h2:2≤n)(q:n≤1152921504606846976):
  Calls Tryz.prog 100 #[.int .i64 (n:Int)] w fun e d=>e=.returned (.int .i64 ((merK n:Nat):Int))∧w=d:=by
 have l:(0:Int)≤(n:Int):=Int.natCast_nonneg _
 go_enter Tryz.func100,Tryz.ntmps100
 go_wp2_with fail
 go_loop [3] (fun b=>∃(j k:Nat),k=2^j∧k<n∧b=.int .i64 (k:Int)) (fun b=>n - (intOf b).toNat)
 case atStart=>exact⟨0,1,rfl,by omega,rfl⟩
 case round=>
  obtain⟨j,k,c,p,rfl⟩:=hrel
  have a:=jh c
  have r:(0:Int)≤(k:Int):=Int.natCast_nonneg _
  have m:2*(k:Int)≤2305843009213693952:=by omega
  have h:Hid (0<k):=jh (by rw[c];exact Nat.pow_pos (by omega))
  clear c
  by_cases g:2*k<n
  ·have f:2*(k:Int)<(n:Int):=by omega
   go_wp2_with fail
   go_round
   case rel=>exact⟨j+1,2*k,by rw[a.o,q132,q134],g,by go_num⟩
   case measure=>
    have:=h.o
    simp[intOf]
    omega
  have f:¬2*(k:Int)<(n:Int):=by omega
  have i:Hid (merK n=k):=jh (by rw[a.o];exact merK_of h2 (by have:=a.o;omega) (by have:=a.o;omega))
  go_wp2_with fail
  go_ret
  exact⟨by rw[i.o];rfl,rfl⟩
section
variable {P:Program} {w:World}
theorem rowB_upto {t e:TypeId}(ht:P.underlying t=some (.slice e))(m:∀w,(sizeOf e).run P w=.ok 1 w) {v:Value} {c:List (List UInt8)}(h:RowB w v c)(k:Nat)(r:k≤c.length):
  ∃a,RowB w a (c.take k)∧∀f,(Instr.sliceAt t v none (some (.int .i64 (k:Int))) none).run P f=.ok a f:=by
 obtain⟨g,j,q,p⟩:=h
 obtain⟨a,h1,h2⟩:=row_upto ht m j k (by omega)
 refine⟨a,⟨g.take k,h1,by rw[q107,q107,q],fun i x l b d=>?_⟩,h2⟩
 rw[List.getElem?_take]at b d
 split at b
 ·rename_i n
  rw[if_pos n]at d
  exact p i x l b d
 cases b
theorem rowB_cut {t e:TypeId}(ht:P.underlying t=some (.slice e))(m:∀w,(sizeOf e).run P w=.ok 1 w) {v:Value} {b:List (List UInt8)}(h:RowB w v b)(k:Nat)(q:k≤b.length):
  ∃a,RowB w a (b.drop k)∧∀c,(Instr.sliceAt t v (some (.int .i64 (k:Int))) none none).run P c=.ok a c:=by
 obtain⟨g,j,p,n⟩:=h
 obtain⟨a,h1,h2⟩:=row_cut ht m j k (by omega)
 refine⟨a,⟨g.drop k,h1,by rw[q120,q120,p],fun i x l d f=>?_⟩,h2⟩
 rw[List.getElem?_drop]at d f
 exact n _ x l d f
theorem mer_form {v:Value} {c:List (List UInt8)}(h:RowB w v c):∃a b,v=.slice a c.length b∧c.length≤b∧b≤maxLen:=by
 obtain⟨f,⟨a,b,d,h1,h2,_⟩,e,_⟩:=h
 rw[e]at d h1
 exact⟨a,b,d,h1,h2⟩
theorem rowB_elem {a:Option Addr} {n p:Nat} {c:List (List UInt8)}(h:RowB w (.slice a n p) c)(z:0<c.length):∃b off,a=some ⟨b,off,none⟩∧∀i,i<c.length→∃d c2,w.cell? ⟨b,off+i,none⟩=some (.slice d (c.getD i []).length c2)∧Row1 w (.slice d (c.getD i []).length c2) ((c.getD i []).map bval):=by
 obtain⟨g,⟨a',x,t,h1,h2,y,u⟩,q,m⟩:=h
 injection t with e1 e2 e3
 subst e1
 obtain⟨b,off,k,v,s⟩:=u (by rintro rfl;simp at q;omega)
 refine⟨b,off,k,fun i r=>?_⟩
 have f:g[i]? =some (g[i]'(by omega)):=List.getElem?_eq_getElem (by omega)
 have l:c[i]? =some (c.getD i []):=by rw[List.getD_eq_getElem?_getD,List.getElem?_eq_getElem r];rfl
 have e:=m i _ _ f l
 obtain⟨d,c2,j,_⟩:=id e
 rw[q100]at j
 rw[j]at e f
 exact⟨d,c2,by rw[s i (by omega),f],e⟩
end
def RootSaid(n:Nat):Prop:=∀(ls:List (List UInt8)) (v:Value) (w:World),ls.length=n→(∀l∈ls,l.length≤1000000000)→ls.length≤1152921504606846976→RowB w v ls→GlobK w→
  Calls Tryz.prog 56 #[v] w fun e w'=>e=.returned (.agg ((merR ls).map bval).toArray)∧Below w.heap.size w w'
theorem rRoot_step(n:Nat)(ih:∀k,k<n→RootSaid k):RootSaid n:=by
 intro c v w hn ak am hv hG
 have a4:=jh am
 obtain⟨R,hi,aj,al,ax⟩:=info_parts Tryz.info5
 obtain⟨Y,a3,G,ab,a6,I⟩:=jq6 hi aj al ax ih hG
 obtain⟨a7,HN⟩:=jq2 ak hn
 obtain⟨a,bn,rfl,r1,r2⟩:=mer_form hv
 unfold maxLen at r2
 obtain⟨av,p,u⟩:=jq3 hv (Blk.made w (ints .u8 (List.replicate 32 0)) 23) (Ext.alloc w (.cells (ints .u8 (List.replicate 32 0)).toArray 23))
 have ac:Hid ((merR c).length=32):=jh (merR_length c)
 have J:=jh (zaf ac.o)
 have aa:Hid (((merR c).map bval).length=(ints .u8 (List.replicate 32 0)).length):=jh (by rw[q100,ac.o,zaa,q112])
 have l0:(0:Int)≤(c.length:Int):=Int.natCast_nonneg _
 clear ih hG ak am hn hv hi aj al ax
 go_enter Tryz.func56,Tryz.ntmps56
 go_upto_region 1 with(fail)
 change Code.wp _ _ _ _ (w.alloc (.cells (ints .u8 (List.replicate 32 0)).toArray 23))
 generalize w.alloc (.cells (ints .u8 (List.replicate 32 0)).toArray 23)=i at*
 obtain⟨A,hA⟩:=nxq w.heap.size
 have af:Hid (w.heap.size≤A):=jh (by omega)
 rw[←hA]at p⊢
 have HV:=jh (av.o.below u.o)
 clear hA av
 by_cases h0:c.length=0
 ·have bo:(c.length:Int)=0:=by omega
  have HQ:Hid (sha256 []=merR c):=jh (merR_nil h0).symm
  go_wp2_with fail
  refine(zdp (.slice none 0 0) [] i (Row1.nil i) (by decide) (I.o.ext u.o)).mono ?_
  rintro e E ⟨rfl,f⟩
  rw[HQ.o]
  have ae:=xxb p f
  have a8:=xxt u f
  clear f
  go_wp2_with (refine ssb A ((merR c).map bval) ae.o aa.o J.o (zac _) ?_;intro bf a9 a5)
  refine bodyPost_ret (zam rfl _ A _ _ _ _ rfl a9 q102 J.o) rfl ⟨rfl,zab a8.o a5 af.o⟩
 have bo:¬(c.length:Int)=0:=by omega
 by_cases h1:c.length=1
 ·have ba:(c.length:Int)=1:=by omega
  have br:(0:Int)<(c.length:Int):=by omega
  obtain⟨b,off,rfl,aw⟩:=rowB_elem HV.o (by omega)
  obtain⟨a2,c2,hc,hr⟩:=aw 0 (by omega)
  have HQ:Hid (sha256 (0::c.getD 0 [])=merR c):=jh (by
   rw[merR_one' h1]
   cases c with
   |nil=>simp at h1
   |cons x t=>rfl)
  have ag:Hid ((c.getD 0 []).length≤1000000000):=jh (a7.o _ (by
   rw[List.getD_eq_getElem?_getD,List.getElem?_eq_getElem (by omega)]
   exact List.getElem_mem _))
  generalize c.getD 0 []=x at*
  rw[q149]at hc
  have r:=jh (Ext.alloc i (.cells #[.int .u8 0] 5))
  have bc:(i.alloc (.cells #[.int .u8 0] 5)).cell? ⟨b,off,none⟩=some (.slice a2 x.length c2):=(r.o.cell (q146 i _ hc)).trans hc
  have HR:=jh (hr.below r.o)
  have HO:=jh (own_made i #[.int .u8 0] i.heap.size 5 1 (([0]:List UInt8).map bval) rfl rfl (by unfold maxLen;omega) (q101 _))
  have bm:=jh (r.o.size)
  clear hc hr aw
  go_wp2_with (at_builtin;refine zad rfl _ _ 24 rfl i.heap.size 5 R (.int .u8 0) 1 q104 Y.o a3.o G.o ab.o rfl _ _ _ rfl HO.o rfl HR.o (zac _) (by have:=ag.o;rw[q100];unfold maxLen;omega) (by have:=ag.o;rw[q100];omega) bm.o ?_;intro v4 d b8 b6)
  have ah:=jh (zbf r.o HO.o (q101 _) b6)
  have bj:Hid (Row1 d v4 ((0::x).map bval)):=jh (by have h:=Row1.of_own b8;simpa using h)
  clear b8 b6 HO HR bc
  refine(zdp v4 (0::x) d bj.o (by have:=ag.o;rw[q106];omega) (I.o.ext (u.o.trans ah.o))).mono ?_
  rintro e E ⟨rfl,f⟩
  rw[HQ.o]
  obtain⟨ae,a8⟩:=jq2 (zak p.o (ah.o.trans f)) (u.o.trans (ah.o.trans f))
  clear f
  go_wp2_with (refine ssb A ((merR c).map bval) ae.o aa.o J.o (zac _) ?_;intro bf a9 a5)
  refine bodyPost_ret (zam rfl _ A _ _ _ _ rfl a9 q102 J.o) rfl ⟨rfl,zab a8.o a5 af.o⟩
 have ba:¬(c.length:Int)=1:=by omega
 have h2:2≤c.length:=by omega
 obtain⟨y,b5,HM⟩:=jq3 (merK_lt h2) (merK_pos c.length) (merR_two h2)
 have HH:=jh (fun B=>rhalf_any c.length B h2 a4.o)
 obtain⟨k,hk⟩:=nxq (merK c.length)
 rw[←hk]at y b5 HM HH
 clear hk
 have k0:(0:Int)≤(k:Int):=Int.natCast_nonneg _
 have k1:(k:Int)≤(c.length:Int):=by have:=y.o;omega
 have k2:(k:Int)≤(bn:Int):=by have:=y.o;omega
 obtain⟨v1,ai,bh⟩:=rowB_upto q169 Tryz.sizeOf24 HV.o k (by have:=y.o;omega)
 obtain⟨H,ad,bd⟩:=rowB_cut q169 Tryz.sizeOf24 HV.o k (by have:=y.o;omega)
 obtain⟨a1,c1,rfl,_⟩:=mer_form ai
 obtain⟨a2,c2,rfl,_⟩:=mer_form ad
 obtain⟨b3,ar⟩:=jq2 ai ad
 have ap:Hid (∀m,Ext i m→Calls Tryz.prog 56 #[.slice a1 (c.take k).length c1] m fun e B=>e=.returned (.agg ((merR (c.take k)).map bval).toArray)∧Below m.heap.size m B):=jh (fun m O=>by
  have M:(c.take k).length=k:=by rw[q107];have:=y.o;omega
  exact a6.o k (by have:=y.o;have:=HN.o;omega) (c.take k) _ m M (fun l hl=>a7.o l (List.mem_of_mem_take hl)) (by rw[M];have:=y.o;have:=a4.o;omega) (b3.o.below O) (I.o.ext (u.o.trans O)))
 have az:Hid (∀m,Ext i m→Calls Tryz.prog 56 #[.slice a2 (c.drop k).length c2] m fun e B=>e=.returned (.agg ((merR (c.drop k)).map bval).toArray)∧Below m.heap.size m B):=jh (fun m O=>by
  have M:(c.drop k).length=c.length - k:=by rw[q120]
  exact a6.o (c.length - k) (by have:=b5.o;have:=y.o;have:=HN.o;omega) (c.drop k) _ m M (fun l hl=>a7.o l (List.mem_of_mem_drop hl)) (by rw[M];have:=a4.o;omega) (ar.o.below O) (I.o.ext (u.o.trans O)))
 have C:Hid ((merR (c.take k)).length=32):=jh (merR_length _)
 have D:Hid ((merR (c.drop k)).length=32):=jh (merR_length _)
 generalize merR (c.take k)=g at*
 generalize merR (c.drop k)=q at*
 generalize (c.take k).length=n1 at*
 generalize (c.drop k).length=n2 at*
 have bg:Hid (merR c=sha256 (1::(g++q))):=jh HM.o
 obtain⟨bk,b9⟩:=jq2 (zaf C.o) (zaf D.o)
 have bp:Hid ((g.map bval).length=(ints .u8 (List.replicate 32 0)).length):=jh (by rw[q100,C.o,zaa,q112])
 have be:Hid ((q.map bval).length=(ints .u8 (List.replicate 32 0)).length):=jh (by rw[q100,D.o,zaa,q112])
 clear ai ad HM ac J aa
 have s:Hid (Ext w i):=u
 go_wp2_with fail
 refine(HH.o i).mono ?_
 rintro e B ⟨rfl,rfl⟩
 go_wp2_with fail
 refine(ap.o i (Ext.refl _)).mono ?_
 rintro e E ⟨rfl,f⟩
 have U:Hid (Ext i E):=jh f
 have p:=xxb p f
 have s:=xxt s f
 obtain⟨P,r⟩:=jq2 (Blk.made E (ints .u8 (List.replicate 32 0)) 23) (Ext.alloc E (.cells (ints .u8 (List.replicate 32 0)).toArray 23))
 clear f
 go_upto_region 8 with(refine ssb E.heap.size (g.map bval) P.o bp.o bk.o (zac _) ?_;intro w2 b0 V)
 have z:=jh (zab r.o V (q101 _))
 have p:=xxb p z.o
 have s:=xxt s z.o
 obtain⟨U,N⟩:=jq2 (U.o.trans z.o) b0
 generalize E.heap.size=B4 at*
 clear b0 V P r z HH ap
 go_wp2_with fail
 refine(az.o w2 U.o).mono ?_
 rintro e W ⟨rfl,f⟩
 obtain⟨p,N⟩:=xq2 p N f
 have s:=xxt s f
 obtain⟨P,r⟩:=jq2 (Blk.made W (ints .u8 (List.replicate 32 0)) 23) (Ext.alloc W (.cells (ints .u8 (List.replicate 32 0)).toArray 23))
 clear f U
 go_upto_region 9 with(refine ssb W.heap.size (q.map bval) P.o be.o b9.o (zac _) ?_;intro d ao b2)
 have z:=jh (zab r.o b2 (q101 _))
 obtain⟨p,N⟩:=xq2 p N z.o
 have s:=xxt s z.o
 have H5:=jh ao
 generalize W.heap.size=B5 at*
 clear ao b2 P r z az b3 ar bh bd u a6
 have B0:Ext d d.drew:=Ext.drew _
 refine wp_region_held_drew (S:=fun B=>Far (A) d B) (by kernel_rfl) (zap B0) (fun F=>?_)
 refine tke 1 (.slice (some ⟨B4,0,none⟩) 32 32) rfl (zbp _ _ _ _ (.pointer (some ⟨B4,0,none⟩)) (.slice (some ⟨B4,0,none⟩) 32 32) none none (by rfl) rfl rfl rfl rfl (fun w=>zdf q102 q111 (by omega) _ w)) F ?_
 simp only[nm]
 refine tke 3 (.slice (some ⟨B5,0,none⟩) 32 32) rfl (zbp _ _ _ _ (.pointer (some ⟨B5,0,none⟩)) (.slice (some ⟨B5,0,none⟩) 32 32) none none (by rfl) rfl rfl rfl rfl (fun w=>zdf q102 q111 (by omega) _ w)) F ?_
 simp only[nm]
 refine rdy 0 rfl fun K j=>?_
 refine zan (by rfl) ?_
 refine zbl (some 30) _ _ _ _ rfl rfl #[.int .u8 1] R (.int .u8 0) q104 Y.o a3.o (by rw[G.o];decide) (by rw[G.o];decide) (by rw[G.o];kernel_rfl) ?_
 obtain⟨m1,L⟩:=nxq (World.alloc d.drew (.cells #[.int .u8 1] 5))
 rw[←L]
 have b1:Ext d.drew m1:=by rw[L];exact Ext.alloc _ _
 obtain⟨g1,a0⟩:=nxq ((d.drew).heap.size)
 rw[←a0]
 have r1:Row1 m1 (.slice (some ⟨g1,0,none⟩) 1 1) (([1]:List UInt8).map bval):=by rw[L,a0];exact Row1.made _ _ _ _ _ _ rfl rfl rfl (by unfold maxLen;omega)
 have o1:World.ownsRow m1 (d).heap.size 5 1 (.slice (some ⟨g1,0,none⟩) 1 1) 1 (([1]:List UInt8).map bval):=by rw[L,a0];exact own_made _ _ _ _ _ _ rfl rfl (by unfold maxLen;omega) B0.size
 clear L a0
 have Z:Ext d m1:=B0.trans b1
 refine j.o _ _ (zap Z) (fun F=>?_)
 clear j K
 try simp only[nm]
 refine rdy 2 rfl fun K j=>?_
 refine zan (by rfl) ?_
 refine zbh _ _ 24 rfl (d).heap.size 5 R (.int .u8 0) 1 q104 Y.o a3.o G.o ab.o rfl (.slice (some ⟨g1,0,none⟩) 1 1) 1 _ rfl o1 rfl ((zbz (n:=32) N.o (by rw[q100];exact C.o) (by unfold maxLen;omega)).below Z) (zac _) (by simp only[q100,q106,q121,C.o,D.o];unfold maxLen;omega) (by simp only[q100,q106,q121,C.o,D.o];omega) Z.size ?_
 intro H T au V
 have N2:Ext d T:=zbf Z o1 (q101 _) V
 have r2:Row1 T H ((([1]++g)).map bval):=by have h:=Row1.of_own au;simpa using h
 have o2:World.ownsRow T (d).heap.size 5 1 H ((1::g).length) ((1::g).map bval):=zcp au (by rw[q100,q106];omega) (by rfl)
 have r2:Row1 T H ((1::g).map bval):=Row1.of_own o2
 refine j.o _ _ (zap N2) (fun F=>?_)
 clear j K
 try simp only[nm]
 refine rdy 4 rfl fun K j=>?_
 refine zan (by rfl) ?_
 refine zbh _ _ 24 rfl (d).heap.size 5 R (.int .u8 0) 1 q104 Y.o a3.o G.o ab.o rfl (H) (1::g).length _ rfl o2 rfl ((zbz (n:=32) H5.o (by rw[q100];exact D.o) (by unfold maxLen;omega)).below N2) (zac _) (by simp only[q100,q106,q121,C.o,D.o];unfold maxLen;omega) (by simp only[q100,q106,q121,C.o,D.o];omega) N2.size ?_
 intro v3 Q aq bi
 have N3:Ext d Q:=zbf N2 o2 (q101 _) bi
 have r3:Row1 Q v3 (((1::g++q)).map bval):=by have h:=Row1.of_own aq;simpa using h
 have o3:World.ownsRow Q (d).heap.size 5 1 v3 ((1::(g++q)).length) ((1::(g++q)).map bval):=zcp aq (by rw[q100,q106,q106,q105];omega) (by simp)
 have r3:Row1 Q v3 ((1::(g++q)).map bval):=Row1.of_own o3
 refine j.o _ _ (zap N3) (fun F=>?_)
 clear j K
 try simp only[nm]
 refine rdy 5 rfl fun K j=>?_
 go_simp
 refine(zdp _ (1::(g++q)) Q r3 (by rw[q106,q105];have:=C.o;have:=D.o;omega) (I.o.ext (s.o.trans N3))).mono ?_
 rintro e m4 ⟨rfl,b4⟩
 have r3:=r3.below b4
 have o3:=zbn o3 b4
 have X:Ext d m4:=N3.trans b4
 refine j.o _ _ (zap X) (fun F=>?_)
 clear j K
 try simp only[nm]
 refine rdy 6 rfl fun K j=>?_
 refine zan (by rfl) ?_
 refine zar _ _ _ rfl (A) ((sha256 (1::(g++q))).map bval) rfl rfl _ _ (zak p.o X) (by rw[q100,zbc,zaa];rfl) (zaf ((zbc _))) (zac _) ?_
 intro m5 bl b7
 refine j.o _ _ (zby X b7) (fun F=>?_)
 clear j K
 try simp only[nm]
 refine dne ?_
 have an:=bl
 have ay:=zab (s.o.trans X) b7 af.o
 generalize m5=bq at an ay⊢
 have bb:Hid ((Tryz.prog.info? 23).map (·.size)=some ((sha256 (1::(g++q))).map bval).length):=jh (zaf (zbc _))
 go_wp2_with fail
 refine bodyPost_ret (zam rfl _ A _ _ _ _ rfl an q102 bb.o) rfl ⟨by rw[bg.o],ay⟩
theorem rRoot_any(a:List (List UInt8))(v:Value)(w:World)(c:∀l∈a,l.length≤1000000000)(f:a.length≤1152921504606846976)(d:RowB w v a)(g:GlobK w):
  Calls Tryz.prog 56 #[v] w fun e b=>e=.returned (.agg ((merR a).map bval).toArray)∧Below w.heap.size w b:=
 Nat.strongRecOn (motive:=RootSaid) a.length rRoot_step a v w rfl c f d g
end
theorem rows_info:∃i:TypeInfo,Tryz.prog.info? 24=some i∧i.zero=some (.slice none 0 0)∧i.size=1∧i.bytes=24:=by
 have h:(Tryz.prog.info? 24).map (fun i=>(i.zero,i.size,i.bytes))=some (some (.slice none 0 0),1,24):=by kernel_rfl
 cases h2:Tryz.prog.info? 24 with
 |none=>rw[h2]at h;cases h
 |some i=>
  rw[h2]at h
  injection h with h
  injection h with e1 e2
  injection e2 with e2 e3
  exact⟨i,rfl,e1,e2,e3⟩
theorem rCut_nil(w:World):Calls Tryz.prog 93 #[.slice none 0 0] w fun e j=>∃x,e=.returned (.tuple #[x,.int .i64 0])∧RowB j x [z64]∧Below w.heap.size w j:=by
 obtain⟨P,D,k,t,A⟩:=info_parts Tryz.info5
 obtain⟨H,F,R,I⟩:=jq4 D k t A
 clear D k t A
 obtain⟨N,p,z,m,C⟩:=rows_info
 obtain⟨U,L,J,K⟩:=jq4 p z m C
 clear p z m C
 have S:(Instr.makeSlice 24 (.int .i64 64) (.int .i64 64)).run Tryz.prog w=.ok (.slice (some ⟨w.heap.size,0,none⟩) 64 64) (w.alloc (.cells ((zB 64).map bval).toArray 5)):=run_make_zeros w _ _ q104 P H.o F.o R.o I.o 64 (by omega)
 obtain⟨a,b⟩:=jq2 (Blk.made w ((zB 64).map bval) 5) (Ext.alloc w (.cells ((zB 64).map bval).toArray 5))
 go_enter Tryz.func93,Tryz.ntmps93
 go_wp2_with fail
 refine wp_loop_rounds 2 ?_
 rw[rounds_succ]
 go_upto_region 8 with(fail)
 clear S
 generalize w.alloc (.cells ((zB 64).map bval).toArray 5)=d at*
 obtain⟨X,q⟩:=nxq w.heap.size
 have G:Hid (w.heap.size≤X):=jh (by omega)
 rw[←q]at a⊢
 clear q
 have l:Hid (0+([]:List Value).length≤((zB 64).map bval).length):=jh (by simp)
 go_upto_region 9 with(refine wpList_copy_blk rfl (.tmp 21) (.tmp 24) 24 24 rfl 5 q104 one_u8m (some ⟨X,0,none⟩) none 64 64 0 0 rfl rfl X 0 ((zB 64).map bval) 5 a.o [] rfl (fun h=>absurd h (by simp)) l.o (by intro v Q;cases Q) ?_;intro O i y)
 rw[splice_nil]at i
 obtain⟨a,b⟩:=jq2 i (zab b.o y G.o)
 clear i y l
 generalize O=d at*
 have r:=jh (zbz (n:=64) a.o (by rw[q100,zB_length]) (by unfold maxLen;omega))
 have E:=jh (Row1.made d #[.slice (some ⟨X,0,none⟩) 64 64] 24 _ 1 [.slice (some ⟨X,0,none⟩) 64 64] rfl rfl rfl (by unfold maxLen;omega))
 have c:=jh (Ext.alloc d (.cells #[.slice (some ⟨X,0,none⟩) 64 64] 24))
 go_wp2_with (at_builtin;refine zad rfl _ _ 55 rfl d.heap.size 24 N (.slice none 0 0) 24 q169 U.o L.o J.o K.o rfl (.slice none 0 0) 0 [] rfl (World.ownsRow_nil _ _ _ _) rfl E.o (by intro u s;simp at s;subst s;rfl) (by simp[maxLen]) (by simp) c.o.size ?_;intro M V f B)
 rw[q115]at f
 have g:=jh (zbf c.o (World.ownsRow_nil _ _ 24 _) c.o.size B)
 have T:=jh (rowB1 (Row1.of_own f) (r.o.below g.o))
 have b:=xxt b g.o
 clear f B E c r a g
 rw[rounds_succ]
 go_wp2_with fail
 refine bodyPost_ret (zdk rfl _ _) rfl ?_
 exact⟨M,rfl,T.o,b.o⟩
theorem rMake_nil(key:List UInt8)(ver:Int)(w:World)(C:key.length=32)(W:smallB ver=true):
  Calls Tryz.prog 51 #[.agg (key.map bval).toArray,.int .i64 ver,.slice none 0 0] w fun e k=>∃x,e=.returned (.tuple #[x,.int .i64 0])∧RowB k x [blkS key ver 0 z64]∧Below w.heap.size w k:=by
 obtain⟨iq,G,N,F,R⟩:=rows_info
 obtain⟨ac,a8,a5,a6,ab,a1⟩:=jq6 G N F R C W
 have a7:=jh (zaf C)
 clear G N F R C W
 have I:=jh (And.intro (Blk.made w (key.map bval) 23) (Ext.alloc w (.cells (key.map bval).toArray 23)))
 go_enter Tryz.func51,Tryz.ntmps51
 go_upto_region 1 with(fail)
 obtain⟨h0,E⟩:=I.o
 change Code.wp _ _ _ _ (w.alloc (.cells (key.map bval).toArray 23))
 generalize w.alloc (.cells (key.map bval).toArray 23)=T at*
 obtain⟨A,U⟩:=nxq w.heap.size
 rw[←U]at h0⊢
 have t:=jh h0
 have c:Hid (Ext w T):=jh E
 have HO:Hid (w.heap.size=A):=jh (by omega)
 clear I E h0 U
 go_wp2_with fail
 refine(rCut_nil T).mono ?_
 rintro e f ⟨lx,rfl,⟨Y,Z,X,M⟩,q⟩
 obtain⟨b,aa⟩:∃b,Y=[b]:=by
  match Y,X with
  |[b],_=>exact⟨b,rfl⟩
 subst aa
 have a4:=jh (M 0 b z64 rfl rfl)
 obtain⟨la,J,a3,_,_,_,a0⟩:=id Z
 obtain⟨j,g,a2,_,z⟩:=a0 (by simp)
 subst a2
 subst a3
 have L:Hid (f.cell? ⟨j,g,none⟩=some b):=jh (by have h:=z 0 (by simp);simpa using h)
 have t:=xxb t q
 have c:=xxt c q
 clear Z X M q a0 z
 go_wp2_with fail
 refine wp_loop_rounds 2 ?_
 rw[rounds_succ]
 go_upto_region 8 with(fail)
 have r:Ext f f.drew:=Ext.drew _
 refine wp_region_held_drew (S:=fun k=>Ext f k) (by kernel_rfl) r (fun a=>?_)
 refine tke 0 (.agg ((key).map bval).toArray) rfl (sld A 0 (fun w h=>zax t.o h) q102 a7.o) a ?_
 simp only[nm]
 refine tke 1 (.int .i64 ver) rfl (zbe _ (.int .i64 ver) (by rfl) rfl rfl) a ?_
 simp only[nm]
 refine tke 2 (.int .i64 0) rfl (zbe _ (.int .i64 0) (by rfl) rfl rfl) a ?_
 simp only[nm]
 refine tke 3 (.slice (some ⟨j,g,none⟩) 1 J) rfl (zbe _ (.slice (some ⟨j,g,none⟩) 1 J) (by rfl) rfl rfl) a ?_
 simp only[nm]
 refine tke 4 (.int .i64 0) rfl (zbe _ (.int .i64 0) (by rfl) rfl rfl) a ?_
 simp only[nm]
 refine tke 5 (.pointer (some ⟨j,g,none⟩)) rfl (zaz (.pointer (some ⟨j,g,none⟩)) (by rfl) (fun w _=>by go_simp)) a ?_
 simp only[nm]
 refine tke 6 b rfl (zaz b (by rfl) (fun w h=>by have z:=(Below.cell h (q146 f _ L.o)).trans L.o;go_simp)) a ?_
 simp only[nm]
 refine rdy 7 rfl fun K i=>?_
 go_simp
 refine(rSealBlock_any key ver 0 z64 b f.drew ab.o a1.o (by decide) (a4.o.below r) zdc).mono ?_
 rintro e O ⟨d,rfl,P,b1⟩
 have p:=jh (Row1.of_own P)
 clear P
 have y:Ext f O:=r.trans b1
 refine i.o _ _ y (fun a=>?_)
 clear i K
 try simp only[nm]
 refine tke 8 (.tuple #[d,.int .i64 0]) rfl (zbe _ (.tuple #[d,.int .i64 0]) (by rfl) rfl rfl) a ?_
 simp only[nm]
 refine tke 9 d rfl (zaz (d) (by rfl) (fun w _=>by go_simp)) a ?_
 simp only[nm]
 refine tke 10 (.int .i64 0) rfl (zaz (.int .i64 0) (by rfl) (fun w _=>by go_simp)) a ?_
 simp only[nm]
 refine tke 11 d rfl (yi_assign _ (d) (by rfl) rfl rfl) a ?_
 simp only[nm]
 refine rdy 12 rfl fun K i=>?_
 go_simp
 refine i.o _ _ y (fun a=>?_)
 clear i K
 try simp only[nm]
 refine dne ?_
 have c:=xxt c y
 generalize O=B at*
 generalize d=x at*
 obtain⟨D,n,s,rfl⟩:=row_form p.o
 have V:=jh (Row1.made B #[.slice D n s] 24 _ 1 [.slice D n s] rfl rfl rfl (by unfold maxLen;omega))
 have l:=jh (Ext.alloc B (.cells #[.slice D n s] 24))
 go_wp2_with (at_builtin;refine zad rfl _ _ 55 rfl B.heap.size 24 iq (.slice none 0 0) 24 q169 ac.o a8.o a5.o a6.o rfl (.slice none 0 0) 0 [] rfl (World.ownsRow_nil _ _ _ _) rfl V.o (by intro u H;simp at H;subst H;rfl) (by simp[maxLen]) (by simp) l.o.size ?_;intro v3 w3 m Q)
 rw[q115]at m
 have v:=jh (zbf l.o (World.ownsRow_nil _ _ 24 _) l.o.size Q)
 have a9:=jh (rowB1 (Row1.of_own m) (p.o.below v.o))
 have c:=xxt c v.o
 clear m Q V l p v
 rw[rounds_succ]
 go_wp2_with fail
 refine bodyPost_ret (zdk rfl _ _) rfl ?_
 exact⟨v3,rfl,a9.o,c.o⟩
theorem own_far {w a:World} {base:Nat} {e:TypeId} {size n c:Nat} {x:Value} {f:List Value}(h:w.ownsRow base e size x n f)(g:w.grownBy a (some c))(m:∀k,x.ownBlock=some k→k≠c):a.ownsRow base e size x n f:=by
 obtain⟨h1,h2⟩:=h
 refine⟨h1,?_⟩
 rcases h2 with h2|⟨b,p,l,rfl,q,d,j⟩
 ·exact Or.inl h2
 refine Or.inr ⟨b,p,l,rfl,q,?_,j⟩
 have i:b<w.heap.size:=(Array.getElem?_eq_some_iff.1 d).1
 exact(g.block b i (fun e=>m b rfl (Option.some.inj e))).trans d
noncomputable def Man.sgd(seed:List UInt8)(m:Man):Man:=if m.ok=true then { m with sig:=edSign seed m.body } else manZ
theorem Man.pac_yes {m:Man}(h:m.ok=true):m.pacL=m.pack:=if_pos h
theorem Man.pac_no {m:Man}(h:m.ok=false):m.err=1∧m.pacL=[]∧m.bodL=[]:=⟨if_neg (by rw[h];simp),if_neg (by rw[h];simp),if_neg (by rw[h];simp)⟩
section
section
variable {P:Program} {ops:Array Oper} {Q:Exit→Act→World→Prop}
theorem wpList_load_a {rest:List Oper} {d:Oper} {a:Act} {w:World}(h:Region.wanted d (yielded ops a.tmps)=true)(ty:TypeId)(x:Operand)(f:d.op=.load ty x)
  (c o:Nat) (k:a.eval x=.pointer (some ⟨c,o,none⟩)) (b:List Value) (n:Nat) (e:TypeId) (i:w.rangeAt c o b)
  (l:P.underlying ty=some (.array n e)) (j:(P.info? ty).map (·.size)=some b.length)
  (next:wpList P ops Q rest (a.put d.dst (.agg b.toArray)) w):wpList P ops Q (d::rest) a w:=by
 refine wpList_step fun K g=>?_
 rw[if_pos h]
 exact wp_load_mid ty x f c o k b _ i l rfl j (g _ _ next)
theorem zdi {rest:List Oper} {d:Oper} {a:Act} {w:World}(h:Region.wanted d (yielded ops a.tmps)=true)(ty:TypeId)(x:Operand)(e:d.op=.load ty x)
  (c o:Nat) (k:a.eval x=.pointer (some ⟨c,o,none⟩)) (b:List Value) (f:Array Field) (i:w.rangeAt c o b)
  (l:P.underlying ty=some (.struct f)) (j:(P.info? ty).map (·.size)=some b.length)
  (next:wpList P ops Q rest (a.put d.dst (.agg b.toArray)) w):wpList P ops Q (d::rest) a w:=by
 refine wpList_step fun K g=>?_
 rw[if_pos h]
 exact wp_load_mid ty x e c o k b _ i l rfl j (g _ _ next)
end
end
section
section
variable {P:Program}
theorem part_i64 {t:TypeId} {id:Int} {r:List Value}(w:World)(ht:P.underlying t=some (.int .i64))(a:P.cellsOf t=1):(part t (Value.int .i64 id::r).toArray 0).run P w=.ok (.int .i64 id) w:=by
 simp[part,isAgg,run_underlying ht]
theorem part_arr {t e:TypeId} {n o:Nat} {i:TypeInfo} {pre post:List Value} {l:List UInt8}(w:World)(ht:P.underlying t=some (.array n e))(f:P.info? t=some i)(c:i.size=n)(b:l.length=n)(a:pre.length=o):
  (part t (pre++(l.map bval++post)).toArray o).run P w=.ok (.agg (l.map bval).toArray) w:=by
 have g:((pre++(l.map bval++post)).toArray.extract o (o+n))=(l.map bval).toArray:=by
  subst a
  subst b
  simp[List.extract_eq_take_drop]
 have d:(typeInfo t).run P w=.ok i w:=by simp[typeInfo,f]
 simp[part,isAgg,run_underlying ht,sizeOf,d,c]
 try (subst a;subst b;simp)
theorem eqIn_bytes {ty e:TypeId} {n:Nat} {i:TypeInfo}(d:Nat)(q:P.underlying ty=some (.array n e))(m:P.underlying e=some (.int .u8))(c:P.info? e=some i)(p:P.cellsOf e=1)(a b:List UInt8)(r:a.length=n)(s:b.length=n)(w:World):
  (Op.equalIn (d+2) ty (.agg (a.map bval).toArray) (.agg (b.map bval).toArray)).run P w=.ok (decide (a=b)) w:=by
 have h1:=run_equalIn_array (P:=P) w (d+1) (a.map bval).toArray (b.map bval).toArray q c
 rw[p,run_eqItems_bytes m c d a b w (List.range n) (fun j g=>by have:=List.mem_range.1 g;omega)]at h1
 refine Eq.trans h1 ?_
 congr 1
 rw[Bool.eq_iff_iff,List.all_eq_true,decide_eq_true_iff]
 constructor
 ·intro h
  apply q168 (by omega)
  intro k l f
  have:=h k (List.mem_range.2 (by omega))
  simpa[List.getD,l,f]using this
 rintro rfl j _
 simp
variable {t e:TypeId} {f0 f1 f2:Field} {i1 i2 ie:TypeInfo} {a b:Int} {ka kb sa sb:List UInt8}
theorem equal_cert(ht:P.underlying t=some (.struct #[f0,f1,f2]))(y:P.stoodInHeld t=false)(A:f0.name≠ "_")(M:f1.name≠ "_")(D:f2.name≠ "_")(h0:P.underlying f0.type=some (.int .i64))(L:f0.offset=0)(z:P.cellsOf f0.type=1)
  (h1:P.underlying f1.type=some (.array 32 e)) (G:f1.offset=1) (C:P.info? f1.type=some i1) (z1:i1.size=32) (h2:P.underlying f2.type=some (.array 64 e)) (K:f2.offset=33) (B:P.info? f2.type=some i2) (z2:i2.size=64)
  (x:P.underlying e=some (.int .u8)) (q:P.info? e=some ie) (r:P.cellsOf e=1) (i:ka.length=32) (f:kb.length=32)
  (u:sa.length=64) (v:sb.length=64) (w:World):(Op.equalIn 10000 t (.agg (certC a ka sa).toArray) (.agg (certC b kb sb).toArray)).run P w=.ok (decide (a=b∧ka=kb∧sa=sb)) w:=by
 have m:P.fieldsOf t=#[f0,f1,f2]:=by unfold Program.fieldsOf;rw[ht]
 have I:∀(id:Int) (k s:List UInt8) (w:World),(part f0.type (certC id k s).toArray f0.offset).run P w=.ok (.int .i64 id) w:=fun id k s w=>by rw[L];exact part_i64 w h0 z
 have p:∀(id:Int) (k s:List UInt8) (w:World),k.length=32→(part f1.type (certC id k s).toArray f1.offset).run P w=.ok (.agg (k.map bval).toArray) w:=fun id k s w g=>by
  rw[G]
  exact part_arr (P:=P) (pre:=[.int .i64 id]) (post:=s.map bval) (l:=k) w h1 C z1 g rfl
 have n:∀(id:Int) (k s:List UInt8) (w:World),k.length=32→s.length=64→(part f2.type (certC id k s).toArray f2.offset).run P w=.ok (.agg (s.map bval).toArray) w:=fun id k s w g J=>by
  rw[K]
  have h:=part_arr (P:=P) (pre:=.int .i64 id::k.map bval) (post:=[]) (l:=s) (o:=33) w h2 B z2 J (by rw[q106,q100,g])
  rw[q129]at h
  exact h
 rw[show 10000=9999+1 from rfl,run_equalIn_struct w 9999 t _ _ (by rw[m];exact ht) y,m]
 have E:=run_equalIn_int (P:=P) w 9998 f0.type .i64 .i64 a b h0
 have H:=eqIn_bytes (P:=P) 9997 h1 x q r ka kb i f w
 have F:=eqIn_bytes (P:=P) 9997 h2 x q r sa sb u v w
 simp only[Op.eqFields,A,M,D,ne_eq,not_false_eq_true,if_true,Sem.run_bind,I,p _ _ _ _ i,p _ _ _ _ f,n _ _ _ _ i u,n _ _ _ _ f v,E,H,F,Result.andThen_ok,Sem.run_ite,Sem.run_pure]
 by_cases c:a=b
 ·by_cases d:ka=kb
  ·by_cases j:sa=sb
   ·simp[c,d,j]
   simp[c,d,j]
  simp[c,d]
 simp[c]
end
end
theorem sig_info16:∃i:TypeInfo,Tryz.prog.info? 26=some i∧i.size=64:=by
 have h:(Tryz.prog.info? 26).map (·.size)=some 64:=by kernel_rfl
 cases h2:Tryz.prog.info? 26 with
 |none=>rw[h2]at h;cases h
 |some i=>rw[h2]at h;exact⟨i,rfl,Option.some.inj h⟩
theorem num_info16:∃i:TypeInfo,Tryz.prog.info? 23=some i∧i.size=32:=by
 have h:(Tryz.prog.info? 23).map (·.size)=some 32:=by kernel_rfl
 cases h2:Tryz.prog.info? 23 with
 |none=>rw[h2]at h;cases h
 |some i=>rw[h2]at h;exact⟨i,rfl,Option.some.inj h⟩
theorem cert_guard:Tryz.prog.eqGuardType Tryz.prog.depth 28=false:=by kernel_rfl
theorem cert_eq {a b:Int} {e f c d:List UInt8} {r:Bool}(g:e.length=32)(q:f.length=32)(s:c.length=64)(m:d.length=64)(k:decide (a=b∧e=f∧c=d)=r)(w:World):(Op.equalIn 10000 28 (.agg (certC a e c).toArray) (.agg (certC b f d).toArray)).run Tryz.prog w=.ok r w:=by
 obtain⟨i,n,l⟩:=sig_info16
 obtain⟨j,h,p⟩:=num_info16
 rw[←k]
 exact equal_cert (t:=28) q167 (by kernel_rfl) (by decide) (by decide) (by decide) q156 rfl (by kernel_rfl) q102 rfl h p q126 rfl n l q113 zdq zcd g q s m w
section
section
variable {P:Program} {ops:Array Oper} {Q:Exit→Act→World→Prop}
theorem wpList_eqs {rest:List Oper} {o:Oper} {a:Act} {w:World}(g:Region.wanted o (yielded ops a.tmps)=true)(ty i:TypeId)(x y:Operand)(b c:Array Value)(r:Bool)(h:∀w,(Op.equalIn 10000 ty (.agg b) (.agg c)).run P w=.ok r w)(f:P.eqGuardType P.depth ty=false)(d:o.op=.binOp .eql ty x y i)
  (j:a.eval x=.agg b) (k:a.eval y=.agg c) (next:wpList P ops Q rest (a.put o.dst (.bool r)) w):wpList P ops Q (o::rest) a w:=by
 refine wpList_step fun K e=>?_
 rw[if_pos g]
 have h1:(Op.equal ty (.agg b) (.agg c)).run P w=.ok r w:=h w
 unfold Oper.wp execOp
 simp only[d,j,k]
 simp[eqGuard,f,binOp,h1]
 exact e _ _ next
end
end
theorem rPackManifest_any(m:Man)(wv:Value)(w:World)(a:m.Arr)(v:Row1 w wv (m.wr.map bval)):
  Calls Tryz.prog 10 #[.agg (manC m wv).toArray] w fun e j=>∃x,e=.returned (.tuple #[x,.int .i64 m.err])∧j.ownsRow w.heap.size 5 1 x m.pacL.length (m.pacL.map bval)∧Below w.heap.size w j:=by
 obtain⟨K,y,k,s,u⟩:=info_parts Tryz.info5
 obtain⟨F,C,L,G⟩:=jq4 y k s u
 clear y k s u
 obtain⟨b,q,r⟩:=jq3 a v (And.intro (Blk.made w (manC m wv) 30) (Ext.alloc w (.cells (manC m wv).toArray 30)))
 go_enter Tryz.func10,Tryz.ntmps10
 go_upto_region 1 with(fail)
 obtain⟨h0,p⟩:=r.o
 change Code.wp _ _ _ _ (w.alloc (.cells (manC m wv).toArray 30))
 generalize w.alloc (.cells (manC m wv).toArray 30)=z at*
 obtain⟨M,A⟩:=nxq w.heap.size
 rw[←A]at h0⊢
 have g:=jh h0
 have c:Hid (Ext w z):=jh p
 have N:Hid (w.heap.size=M):=jh (by omega)
 clear r p h0 A
 obtain⟨D,t⟩:=jq2 (zcj a wv) (rBody_any m wv z b.o (q.o.below c.o))
 go_wp2_with (refine wpList_load_mid rfl _ _ rfl M 0 rfl _ _ g.o.range q118 rfl D.o ?_)
 refine t.o.mono ?_
 rintro e R ⟨x,rfl,l,h⟩
 have i:=jh (zbv l c.o.size)
 have g:=xxb g h
 have c:=xxt c h
 clear l h t a v q
 cases hok:m.ok with
 |false=>
  have f:=jh (Man.pac_no hok)
  have d:=f.o.1
  rw[d]
  clear d
  go_wp2_with fail
  refine bodyPost_ret (zdk rfl _ _) rfl ?_
  exact⟨_,by rw[f.o.1];rfl,by rw[f.o.2.1];exact World.ownsRow_nil _ _ _ _,c.o⟩
 |true=>
  have f:=jh (Man.pac_yes hok)
  obtain⟨d,B⟩:=Man.yes hok
  have J:=jh d
  rw[d]
  clear d
  rw[B,Man.body_length b.o (Man.ok_all hok).2.2.2.1]at i
  have H:=jh (row_rng (n:=64) (zed g.o b.o).2.2.2.2.2.2.2.2 g.o.lt (by rw[q100,b.o.sig]) (by unfold maxLen;omega))
  have hcut:=fun w=>zdb (P:=Tryz.prog) q126 q111 (by omega) M 132 w
  go_wp2_with (at_builtin;refine zad rfl _ _ 24 rfl w.heap.size 5 K (.int .u8 0) 1 q104 F.o C.o L.o G.o rfl x 236 _ rfl i.o rfl H.o (zac _) (by rw[q100,b.o.sig];unfold maxLen;omega) (by rw[q100,b.o.sig];omega) c.o.size ?_;intro O Q E I)
  refine bodyPost_ret (zdk rfl _ _) rfl ?_
  exact⟨_,by rw[J.o];rfl,zcp E (by rw[f.o,Man.pack_length b.o (Man.ok_all hok).2.2.2.1,q100,b.o.sig]) (by rw[f.o];unfold Man.pack;rw[q110]),zbf c.o i.o (q101 _) I⟩
theorem rSame_self(m:Man)(f d:Value)(w:World)(a:m.Arr)(p:Row1 w f (m.wr.map bval))(k:Row1 w d (m.wr.map bval)):
  Calls Tryz.prog 15 #[.agg (manC m f).toArray,.agg (manC m d).toArray] w fun e G=>e=.returned (.bool true)∧Below w.heap.size w G:=by
 obtain⟨c,s,t,n⟩:=jq4 a p k (boxes2 w (manC m f) (manC m d) 30 30)
 go_enter Tryz.func15,Tryz.ntmps15
 go_upto_region 1 with(fail)
 obtain⟨h0,h1,i⟩:=n.o
 change Code.wp _ _ _ _ ((w.alloc (.cells (manC m f).toArray 30)).alloc (.cells (manC m d).toArray 30))
 generalize (w.alloc (.cells (manC m f).toArray 30)).alloc (.cells (manC m d).toArray 30)=M at*
 obtain⟨B,q⟩:=nxq (w.heap.size+1)
 rw[←q]at h1⊢
 obtain⟨A,y⟩:=nxq w.heap.size
 rw[←y]at h0⊢
 obtain⟨I,J⟩:=jq2 h0 h1
 have g:Hid (Ext w M):=jh i
 have S:Hid (w.heap.size=A∧A<B):=jh (by omega)
 clear n i h0 h1 y q
 obtain⟨Z,V,x,R,_,j,_,_,C⟩:=zed I.o c.o
 obtain⟨T,W,h,U,_,z,_,_,D⟩:=zed J.o c.o
 obtain⟨K,L,N,H,Q,O⟩:=jq6 x h j z C D
 obtain⟨u,E,l⟩:=jq3 (zaf a.root) (cert_size (id:=m.cid) a.ckey a.csig) (zep a.sig)
 have Y:=zco (P:=Tryz.prog) (v:=f) 24 9 5 q104 q113 q147 (s.o.below g.o)
 have X:=zco (P:=Tryz.prog) (v:=d) 24 9 5 q104 q113 q147 (t.o.below g.o)
 have F:=jh (cert_eq (r:=true) (a:=m.cid) (b:=m.cid) c.o.ckey c.o.ckey c.o.csig c.o.csig (decide_eq_true ⟨rfl,rfl,rfl⟩))
 clear x h j z C D p k a s t
 go_wp2_with (first|(refine wpList_load_a (by rfl) _ _ rfl A 2 rfl _ _ _ K.o q102 u.o ?_)|(refine wpList_load_a (by rfl) _ _ rfl B 2 rfl _ _ _ L.o q102 u.o ?_)|(refine zdv (by rfl) .eql 23 _ _ _ _ _ _ m.root m.root true rfl (Or.inl ⟨rfl,decide_eq_true rfl⟩) q102 q113 zdq zcd zdn rfl rfl c.o.root c.o.root ?_)|(refine zdi (by rfl) _ _ rfl A 35 rfl _ _ N.o q167 E.o ?_)|(refine zdi (by rfl) _ _ rfl B 35 rfl _ _ H.o q167 E.o ?_)|(refine wpList_eqs (by rfl) 28 _ _ _ _ _ true F.o cert_guard rfl rfl rfl ?_)|(refine wpList_load_a (by rfl) _ _ rfl A 132 rfl _ _ _ Q.o q126 l.o ?_)|(refine wpList_load_a (by rfl) _ _ rfl B 132 rfl _ _ _ O.o q126 l.o ?_)|(refine zdv (by rfl) .eql 26 _ _ _ _ _ _ m.sig m.sig true rfl (Or.inl ⟨rfl,decide_eq_true rfl⟩) q126 q113 zdq zcd sig_guard rfl rfl c.o.sig c.o.sig ?_))
 go_ret
 exact⟨rfl,g.o⟩
theorem rSignManifest_any(d:List UInt8)(m:Man)(wv:Value)(w:World)(hs:d.length=32)(a:m.Arr)(hw:Row1 w wv (m.wr.map bval))(hG:GS w):
  Calls Tryz.prog 20 #[.agg (d.map bval).toArray,.agg (manC m wv).toArray] w fun e w'=>∃W,e=.returned (.tuple #[.agg (manC (m.sgd d) W).toArray,.int .i64 m.err])∧w'.ownsRow w.heap.size 5 1 W (m.sgd d).wr.length ((m.sgd d).wr.map bval)∧Below w.heap.size w w':=by
 obtain⟨i0,hi,U,Z,a5⟩:=info_parts Tryz.info5
 obtain⟨ae,ag,af,ab⟩:=jq4 hi U Z a5
 clear hi U Z a5
 obtain⟨p,I,HS,HG,HB⟩:=jq5 a hw hs hG (boxes3 w (d.map bval) (manC m wv) (manC manZ (.slice none 0 0)) 23 30 30)
 go_enter Tryz.func20,Tryz.ntmps20
 go_upto_region 1 with(fail)
 obtain⟨h0,h1,h2,V⟩:=HB.o
 change Code.wp _ _ _ _ (((w.alloc (.cells (d.map bval).toArray 23)).alloc (.cells (manC m wv).toArray 30)).alloc (.cells (manC manZ (.slice none 0 0)).toArray 30))
 generalize ((w.alloc (.cells (d.map bval).toArray 23)).alloc (.cells (manC m wv).toArray 30)).alloc (.cells (manC manZ (.slice none 0 0)).toArray 30)=wa at*
 obtain⟨R,hR⟩:=nxq (w.heap.size+1+1)
 rw[←hR]at h2⊢
 obtain⟨M,hM⟩:=nxq (w.heap.size+1)
 rw[←hM]at h1⊢
 obtain⟨A,hA⟩:=nxq w.heap.size
 rw[←hA]at h0⊢
 obtain⟨S,b,f⟩:=jq3 h0 h1 h2
 have c:Hid (Ext w wa):=jh V
 have i:Hid (w.heap.size=A∧A<M∧M<R):=jh (by omega)
 clear HB V h0 h1 h2 hA hM hR
 obtain⟨ad,a0⟩:=jq2 (zcj a wv) (rBody_any m wv wa p.o (I.o.below c.o))
 go_wp2_with (refine wpList_load_mid rfl _ _ rfl M 0 rfl _ _ b.o.range q118 rfl ad.o ?_)
 refine a0.o.mono ?_
 rintro e H ⟨x,rfl,P,n⟩
 have y:=jh (Row1.of_own P)
 have Y:Hid (∀k,x.ownBlock=some k→R<k∧k<H.heap.size):=jh (fun k e=>by have:=P.lt k e;have:=f.o.lt;omega)
 have I:=jh ((I.o.below c.o).below n)
 obtain⟨S,b,f⟩:=xq3 S b f n
 have c:=xxt c n
 clear P n a0 a hw hs hG
 have HZ:=jh (zcj zcx (.slice none 0 0))
 cases hok:m.ok with
 |false=>
  have E:Hid (m.sgd d=manZ):=jh (if_neg (by rw[hok];simp))
  have t:=(Man.pac_no hok).1
  have T:=jh t
  rw[t]
  go_wp2_with (first|(refine zch rfl _ _ rfl _ rfl _ (build_man0 _) ?_)|(refine ssb R (manC manZ (.slice none 0 0)) f.o rfl HZ.o (zda rfl) ?_;intro a9 L J))
  refine bodyPost_ret (zau rfl _ R _ _ _ rfl L q118 rfl HZ.o) rfl ?_
  exact⟨.slice none 0 0,by rw[E.o,T.o];rfl,by rw[E.o];exact World.ownsRow_nil _ _ _ _,zab c.o J (by have:=i.o;omega)⟩
 |true=>
  obtain⟨t,a6⟩:=Man.yes hok
  obtain⟨T,a3⟩:=jq2 t f.o.lt
  have Q:Hid (m.wr.length=80):=jh (Man.ok_all hok).2.2.2.1
  have a8:=jh (Man.body_length p.o Q.o)
  rw[t]
  rw[a6]at y
  obtain⟨g,G⟩:=nxq (edSign d m.body)
  have E:Hid (m.sgd d={ m with sig:=g }):=jh (by rw[G];exact if_pos hok)
  have u:Hid (g.length=64):=jh (by rw[G];exact zet _ _)
  have aa:=jh G
  clear G hok t a6
  have K:=(zed b.o p.o).2.2.2.1
  have f3:=b.o.free 34
  have ai:Hid (∀k,R<k→A≠k∧M≠k∧R≠k):=jh (fun k hk=>by have:=i.o;omega)
  go_upto_region 5 with(at_builtin;refine zad rfl _ _ 24 rfl H.heap.size 5 i0 (.int .u8 0) 1 q104 ae.o ag.o af.o ab.o rfl (.slice none 0 0) 0 [] rfl (World.ownsRow_nil _ _ _ _) rfl I.o (zac _) (by rw[q100,Q.o];unfold maxLen;omega) (by rw[q100,Q.o];omega) (q101 _) ?_;intro r D B a4;have l:Ext H D:=zbf (Ext.refl _) (World.ownsRow_nil _ _ 5 _) (q101 _) a4;have K:=(Below.cell l (q146 H _ K)).trans K;have f3:=(zak b.o l).free 34;obtain⟨F,z,ac,_⟩:=id (Row1.of_own B);subst ac)
  rw[q115,q100,q117]at B
  obtain⟨q,C⟩:=jq2 (zbv B c.o.size) B.lt
  have a1:=jh (by have h:=(zak b.o l).set 34 (.slice F m.wr.length z);rwa [lay_wr p.o]at h)
  have j:D.grownBy (D.setCell ⟨M,34,none⟩ (.slice F m.wr.length z)) (some M):=zav (zay D _) 34 _
  have ak:=l.size
  have a2:=jh ((zak S.o l).grown j (by have:=i.o;simp;omega))
  have f:=jh ((zak f.o l).grown j (by have:=i.o;simp;omega))
  have y:=jh ((y.o.below l).grown j (fun k hk e=>by have h1:=Y.o k e;have h2:=i.o;cases hk;omega))
  have q:=jh (own_far q.o j (fun k e=>by have h1:=C.o k e;have h2:=a3.o;have h3:=i.o;omega))
  have C:Hid (∀k,(Value.slice F m.wr.length z).ownBlock=some k→k≠M∧k≠R):=jh (fun k e=>by have h1:=(C.o k e).1;have h2:=a3.o;have h3:=i.o;exact⟨by omega,by omega⟩)
  have c:=jh (zab (c.o.trans l) j (by have:=i.o;omega))
  clear a4 B l j K f3 b ai
  have b:=a1
  clear a1
  generalize D.setCell ⟨M,34,none⟩ (.slice F m.wr.length z)=w3 at*
  generalize Value.slice F m.wr.length z=r at*
  have X:=jh (fun (wx:World) (hx:Ext w3 wx)=>by
   have v:=HG.o.ext (c.o.trans hx)
   have h:=rsign_f d m.body x wx HS.o (y.o.below hx) (by rw[a8.o];decide) v.1 v.2.1 v.2.2.1 v.2.2.2.1 v.2.2.2.2
   rw[←aa.o]at h
   exact h)
  have aj:=jh (zaf HS.o)
  go_wp2_with (refine slb A a2.o q102 aj.o ?_)
  refine(X.o w3 (Ext.refl _)).mono ?_
  rintro e s ⟨rfl,n⟩
  obtain⟨b,f⟩:=xq2 b f n
  have q:=jh (zbn q.o n)
  have c:=xxt c n
  clear n X y Y a2
  have a7:=jh (zep u.o)
  go_upto_region 6 with(refine wpList_store_mid rfl _ _ _ rfl M 132 (g.map bval).toArray rfl rfl (by rw[q136,q100,u.o];exact man_there p.o b.o 132 64 (by omega)) (by rw[q136];exact a7.o) (all_oneCell_toArray (zac _)) ?_)
  try rw[List.toList_toArray]
  have N:=Blk.setCells (g.map bval) _ 132 _ b.o
  rw[(lay_sig p.o u.o).1]at N
  have j:s.grownBy (s.setCells M 132 (g.map bval)) (some M):=zbm (g.map bval) 132 s s (zay s _)
  have b:=jh N
  have f:=jh (f.o.grown j (by have:=i.o;simp;omega))
  have q:=jh (own_far q.o j (fun k e=>(C.o k e).1))
  have c:=jh (zab c.o j (by have:=i.o;omega))
  clear N j a7
  generalize s.setCells M 132 (g.map bval)=w5 at*
  have O:Hid ((Tryz.prog.info? 30).map (·.size)=some (manC { m with sig:=g } r).length):=jh (zcj (put_sig p.o u.o) r)
  have ah:Hid ((manC { m with sig:=g } r).length=(manC manZ (.slice none 0 0)).length):=jh (by rw[zba (put_sig p.o u.o),zba zcx])
  go_wp2_with (first|(refine wpList_load_mid rfl _ _ rfl M 0 rfl _ _ b.o.range q118 rfl O.o ?_)|(refine ssb R (manC { m with sig:=g } r) f.o ah.o O.o (zda (row_cell (Row1.of_own q.o))) ?_;intro a9 L J))
  refine bodyPost_ret (zau rfl _ R _ _ _ rfl L q118 rfl O.o) rfl ?_
  exact⟨r,by rw[E.o,T.o];rfl,by rw[E.o];exact own_far q.o J (fun k e=>(C.o k e).2),zab c.o J (by have:=i.o;omega)⟩
theorem fp_lit:fp 121665=121665:=by
 apply fin_int
 rw[fp_int]
 decide+kernel
theorem rladder_any(kb ub:List UInt8)(w:World)(hk:kb.length=32)(hu:ub.length=32):Calls Tryz.prog 99 #[.agg (kb.map bval).toArray,.agg (ub.map bval).toArray] w fun e w'=>e=.returned (.agg ((ladB kb ub).map bval).toArray)∧Below w.heap.size w w':=by
 obtain⟨HB,d6,e8⟩:=jq3 (boxes3 w (kb.map bval) (ub.map bval) (ints .u8 (List.replicate 32 0)) 23 23 23) hk hu
 clear hk hu
 go_enter Tryz.func99,Tryz.ntmps99
 go_upto_region 1 with(fail)
 obtain⟨H1,H2,H3,m⟩:=HB.o
 change Code.wp _ _ _ _ (((w.alloc (.cells (kb.map bval).toArray 23)).alloc (.cells (ub.map bval).toArray 23)).alloc (.cells (ints .u8 (List.replicate 32 0)).toArray 23))
 generalize ((w.alloc (.cells (kb.map bval).toArray 23)).alloc (.cells (ub.map bval).toArray 23)).alloc (.cells (ints .u8 (List.replicate 32 0)).toArray 23)=wa at*
 obtain⟨A,hA⟩:=nxq w.heap.size
 have b:Hid (w.heap.size≤A):=jh (by omega)
 rw[←hA]at H1 H2 H3⊢
 obtain⟨H1,H2,n⟩:=jq3 H1 H2 H3
 have m:Hid (Ext w wa):=jh m
 clear hA HB
 obtain⟨cl,cx⟩:=nxq (clampB kb)
 obtain⟨mu,cp⟩:=nxq (maskB ub)
 have d1:Hid (cl.length=32):=jh (by rw[cx];exact zcy d6.o)
 have ez:Hid (mu.length=32):=jh (by rw[cp];exact maskB_length e8.o)
 have f0:=jh (zaf d6.o)
 have ga:Hid ((Tryz.prog.info? 23).map (·.size)=some (cl.map bval).length):=jh (zaf d1.o)
 have fh:Hid ((Tryz.prog.info? 23).map (·.size)=some (mu.map bval).length):=jh (zaf ez.o)
 have ek:Hid ((cl.map bval).length=(kb.map bval).length):=jh (by rw[q100,q100,d1.o,d6.o])
 have en:Hid ((ub.map bval).set 31 (.int .u8 (bits .and .u8 ((ub.getD 31 0).toNat:Int) 127))=mu.map bval):=jh (by
  have e1:=u8_and (ub.getD 31 0) 127
  rw[show (127:Int)=((127:UInt8).toNat:Int)from rfl,e1,u8_set,cp]
  rfl)
 obtain⟨ft,fq,HC⟩:=jq3 cx cp (rclamped_any kb wa d6.o)
 rw[←cx]at HC
 clear cx cp
 go_wp2_with (refine slb A H1.o q102 f0.o ?_)
 refine HC.o.mono ?_
 rintro e wb ⟨rfl,j⟩
 obtain⟨H1,H2,n⟩:=xq3 H1 H2 n j
 have m:=xxt m j
 clear j HC
 go_upto_region 2 with(refine ssb A (cl.map bval) H1.o ek.o ga.o (zac _) ?_;intro wc C c)
 have H2:=jh (H2.o.grown c (by simp))
 have n:=jh (n.o.grown c (by simp<;>omega))
 obtain⟨m,t⟩:=jq2 (zab m.o c b.o) C
 clear H1 C c ek f0
 have c1:=H2.o.cell 31
 rw[zbg (by rw[e8.o];omega)]at c1
 have f1:=H2.o.free 31
 generalize ((ub.getD 31 0).toNat:Int)=q1 at*
 go_upto_region 3 with(fail)
 have HM:=jh (H2.o.set 31 (.int .u8 (bits .and .u8 q1 127)))
 rw[en.o]at HM
 have t:=jh (t.o.far (a:=⟨A+1,31,none⟩) (by simp) (.int .u8 (bits .and .u8 q1 127)))
 have n:=jh (n.o.far (a:=⟨A+1,31,none⟩) (by simp) (.int .u8 (bits .and .u8 q1 127)))
 have m:Hid (Ext w _):=jh (Below.setCell m.o (p:=⟨A+1,31,none⟩) (by have:=b.o;simp;omega) (.int .u8 (bits .and .u8 q1 127)))
 generalize bits .and .u8 q1 127=v1 at*
 generalize wc.setCell ⟨A+1,31,none⟩ (.int .u8 v1)=wd at*
 clear c1 f1 en H2
 obtain⟨a6,d8⟩:=nxq (fp (leN mu))
 have HC:=jh (rin_f mu wd ez.o)
 rw[←d8]at HC
 have fv:=jh d8
 clear d8
 go_wp2_with (refine slb (A+1) HM.o q102 fh.o ?_)
 refine HC.o.mono ?_
 rintro e cz ⟨r,rfl,J,j⟩
 obtain⟨z,hz,lz⟩:=J.form
 subst hz
 obtain⟨t,n⟩:=xq2 t n j
 have m:=xxt m j
 clear j HC HM
 obtain⟨V,Q,X⟩:=jq3 (Blk.made cz (ints .i64 (List.replicate 16 0)) 124) (Ext.alloc cz (.cells (ints .i64 (List.replicate 16 0)).toArray 124)) (zag lz)
 have U:Hid ((ints .i64 z).length=(ints .i64 (List.replicate 16 0)).length):=jh (by rw[zaa,lz];rfl)
 go_upto_region 4 with(refine ssb cz.heap.size (ints .i64 z) V.o U.o X.o (zah _ _) ?_;intro eb C c)
 have l:=jh (zab Q.o c (q101 _))
 obtain⟨bi,N⟩:=nxq cz.heap.size
 have g7:Hid (A+2<bi):=jh (by rw[N];exact n.o.lt)
 rw[←N]at C⊢
 obtain⟨t,n⟩:=xq2 t n l.o
 have m:=xxt m l.o
 have x:Hid (ElB eb bi (a6)):=jh ⟨z,lz,C,J⟩
 have b:=jh (And.intro b.o g7.o)
 clear C c V Q l N J X U lz
 go_wp2_with fail
 refine(rone_f 1 eb (by omega) (by omega)).mono ?_
 rintro e cr ⟨r,rfl,J,j⟩
 obtain⟨z,hz,lz⟩:=J.form
 subst hz
 have x:=jh (x.o.ext j)
 obtain⟨t,n⟩:=xq2 t n j
 have m:=xxt m j
 clear j
 obtain⟨V,Q,X⟩:=jq3 (Blk.made cr (ints .i64 (List.replicate 16 0)) 124) (Ext.alloc cr (.cells (ints .i64 (List.replicate 16 0)).toArray 124)) (zag lz)
 have U:Hid ((ints .i64 z).length=(ints .i64 (List.replicate 16 0)).length):=jh (by rw[zaa,lz];rfl)
 go_upto_region 5 with(refine ssb cr.heap.size (ints .i64 z) V.o U.o X.o (zah _ _) ?_;intro bx C c)
 have l:=jh (zab Q.o c (q101 _))
 obtain⟨aa,N⟩:=nxq cr.heap.size
 have g2:Hid (bi<aa):=jh (by rw[N];exact x.o.lt)
 rw[←N]at C⊢
 have x:=jh (x.o.ext l.o)
 obtain⟨t,n⟩:=xq2 t n l.o
 have m:=xxt m l.o
 have y:Hid (ElB bx aa (fp 1)):=jh ⟨z,lz,C,J⟩
 have b:=jh (And.intro b.o g2.o)
 clear C c V Q l N J X U lz
 go_upto_region 6 with(fail)
 change Code.wp _ _ _ _ (bx.alloc (.cells (ints .i64 (List.replicate 16 0)).toArray 124))
 obtain⟨V,Q⟩:=jq2 (Blk.made bx (ints .i64 (List.replicate 16 0)) 124) (Ext.alloc bx (.cells (ints .i64 (List.replicate 16 0)).toArray 124))
 obtain⟨a5,N⟩:=nxq bx.heap.size
 have g5:Hid (aa<a5):=jh (by rw[N];exact y.o.lt)
 rw[←N]at V⊢
 clear N
 generalize bx.alloc (.cells (ints .i64 (List.replicate 16 0)).toArray 124)=ci at*
 obtain⟨x,y⟩:=jq2 (x.o.ext Q.o) (y.o.ext Q.o)
 obtain⟨t,n⟩:=xq2 t n Q.o
 have m:=xxt m Q.o
 have D:Hid (ElB ci a5 0):=jh ⟨List.replicate 16 0,by simp,V.o,el_zero⟩
 have b:=jh (And.intro b.o g5.o)
 clear V Q
 obtain⟨c7,bp,ca,cc⟩:=x.o
 obtain⟨cv,d7,du,c8⟩:=jq4 ca cc bp (zag bp)
 clear ca cc bp
 have lz:=du.o
 have J:=d7.o
 clear du d7
 obtain⟨V,Q⟩:=jq2 (Blk.made ci (ints .i64 (List.replicate 16 0)) 124) (Ext.alloc ci (.cells (ints .i64 (List.replicate 16 0)).toArray 124))
 have HS:=xxb cv Q.o
 have U:Hid ((ints .i64 c7).length=(ints .i64 (List.replicate 16 0)).length):=jh (by rw[zaa,lz];rfl)
 go_upto_region 7 with(first|(refine slb bi cv.o q103 c8.o ?_)|(refine slb bi HS.o q103 c8.o ?_)|(refine ssb ci.heap.size (ints .i64 c7) V.o U.o c8.o (zah _ _) ?_;intro er C c))
 have l:=jh (zab Q.o c (q101 _))
 obtain⟨ad,N⟩:=nxq ci.heap.size
 have fw:Hid (a5<ad):=jh (by rw[N];exact D.o.lt)
 rw[←N]at C⊢
 obtain⟨x,y,D⟩:=jq3 (x.o.ext l.o) (y.o.ext l.o) (D.o.ext l.o)
 obtain⟨t,n⟩:=xq2 t n l.o
 have m:=xxt m l.o
 have E:Hid (ElB er ad (a6)):=jh ⟨c7,lz,C,J⟩
 have b:=jh (And.intro b.o fw.o)
 clear C c V Q l N J U lz HS
 go_wp2_with fail
 refine(rone_f 1 er (by omega) (by omega)).mono ?_
 rintro e cs ⟨r,rfl,J,j⟩
 obtain⟨z,hz,lz⟩:=J.form
 subst hz
 obtain⟨x,y,D,E⟩:=jq4 (x.o.ext j) (y.o.ext j) (D.o.ext j) (E.o.ext j)
 obtain⟨t,n⟩:=xq2 t n j
 have m:=xxt m j
 clear j
 obtain⟨V,Q,X⟩:=jq3 (Blk.made cs (ints .i64 (List.replicate 16 0)) 124) (Ext.alloc cs (.cells (ints .i64 (List.replicate 16 0)).toArray 124)) (zag lz)
 have U:Hid ((ints .i64 z).length=(ints .i64 (List.replicate 16 0)).length):=jh (by rw[zaa,lz];rfl)
 go_upto_region 8 with(refine ssb cs.heap.size (ints .i64 z) V.o U.o X.o (zah _ _) ?_;intro dn C c)
 have l:=jh (zab Q.o c (q101 _))
 obtain⟨a7,N⟩:=nxq cs.heap.size
 have fr:Hid (ad<a7):=jh (by rw[N];exact E.o.lt)
 rw[←N]at C⊢
 obtain⟨x,y,D,E⟩:=jq4 (x.o.ext l.o) (y.o.ext l.o) (D.o.ext l.o) (E.o.ext l.o)
 obtain⟨t,n⟩:=xq2 t n l.o
 have m:=xxt m l.o
 have F:Hid (ElB dn a7 (fp 1)):=jh ⟨z,lz,C,J⟩
 have b:=jh (And.intro b.o fr.o)
 clear C c V Q l N J X U lz
 have y:Hid (ElB dn aa 1):=jh (by rw[←fp_one];exact y.o)
 have F:Hid (ElB dn a7 1):=jh (by rw[←fp_one];exact F.o)
 go_wp2_with fail
 go_loopw [10] (fun i wr=>∃k:Nat,k≤255∧i=.int .i64 (254 - (k:Int))∧ElB wr bi a6∧ElB wr aa (lrun a6 (leN cl) k).x2∧ElB wr a5 (lrun a6 (leN cl) k).z2∧ElB wr ad (lrun a6 (leN cl) k).x3∧ElB wr a7 (lrun a6 (leN cl) k).z3∧Blk wr A (cl.map bval) 23∧Blk wr (A+1+1) (ints .u8 (List.replicate 32 0)) 23∧Ext w wr) (fun i _=>(intOf i+1).toNat)
 case atStart=>exact⟨0,by omega,rfl,x.o,y.o,D.o,E.o,F.o,t.o,n.o,m.o⟩
 case round=>
  clear x y D E F t n m
  obtain⟨k,hk,rfl,q1,q2,q3,q4,q5,q6,q7,q8⟩:=hrel
  have gm:(0:Int)≤(k:Int):=Int.natCast_nonneg _
  obtain⟨s,hs⟩:=nxq (lrun a6 (leN cl) k)
  rw[←hs]at q2 q3 q4 q5
  obtain⟨x,y,D,E,F,t⟩:=jq6 q1 q2 q3 q4 q5 q6
  obtain⟨n,m⟩:=jq2 q7 q8
  clear q1 q2 q3 q4 q5 q6 q7 q8
  by_cases gn:k<255
  ·have i1:(0:Int)≤254 - (k:Int):=by omega
   have i2:(k:Int)≤254:=by omega
   have e1:=t.o.cell ((254 - k) / 8)
   rw[zbg (by have:=d1.o;omega)]at e1
   generalize f7:(cl.getD ((254 - k) / 8) 0).toNat=bt at*
   have s1:((254 - (k:Int)) / 8).toNat=(254 - k) / 8:=by omega
   have s2:(0:Int)≤(254 - (k:Int)) / 8:=by omega
   have s3:(254 - (k:Int)) / 8<32:=by omega
   have s4:(0:Int)≤(254 - (k:Int))%8:=by omega
   have s5:(254 - (k:Int))%8<8:=by omega
   have s6:((254 - (k:Int))%8).toNat=(254 - k)%8:=by omega
   have dk:=leN_bit cl (254 - k) (by have:=d1.o;omega)
   rw[f7]at dk
   have f5:(bt:Int) / 2^((254 - k)%8)=((bt / 2^((254 - k)%8):Nat):Int):=by
    rw[Int.natCast_ediv,Int.natCast_pow]
    rfl
   have ef:(leN cl).testBit (254 - k)=decide (leN cl / 2^(254 - k)%2=1):=Nat.testBit_eq_decide_div_mod_eq
   obtain⟨bq,db⟩:=nxq (leN cl / 2^(254 - k)%2)
   have e0:Hid (bq=1∨bq=0):=jh (by omega)
   have hq:bits .and .u8 ((bt:Int) / 2^((254 - k)%8)) 1=(bq:Int):=by
    rw[f5,andU1,←dk,←db]
   obtain⟨q,dw⟩:=nxq (if bq=1 then s.swap else s)
   have HQ:=jh dw
   have HG:Hid (lrun a6 (leN cl) (k+1)=if bq=1 then(q.step a6).swap else q.step a6):=jh (by
    rw[lrun,ef,←hs,←db,dw]
    by_cases h:bq=1
    ·simp only[h,decide_true]
     rfl
    simp only[h,decide_false]
    rfl)
   clear dk f5 ef f7 db dw
   go_upto_if 47 with(fail)
   clear hq e1 s1 s2 s3 s4 s5 s6 hs
   go_cut [48]from 48 to 52 (fun v wq=>ElB wq bi a6∧ElB wq aa q.x2∧ElB wq a5 q.z2∧ElB wq ad q.x3∧ElB wq a7 q.z3∧Blk wq A (cl.map bval) 23∧Blk wq (A+1+1) (ints .u8 (List.replicate 32 0)) 23∧Ext w wq)
   case first=>
    rcases e0.o with j|j
    ·have hI:(bq:Int)=1:=by omega
     have hm:((bq:Int)==1)=true:=by rw[hI];rfl
     have dq:decide ((bq:Int)=1)=true:=by rw[hI];rfl
     have dh:Hid (q=s.swap):=jh (by rw[HQ.o,j];rfl)
     clear hI j
     go_upto_region 13 with(fail)
     obtain⟨ae,a1,ac,ab⟩:=y.o
     obtain⟨an,bc,ax,aw⟩:=jq4 ac ab a1 (zag a1)
     clear ac ab a1
     obtain⟨af,a3,aj,al⟩:=E.o
     obtain⟨az,bj,b7,be⟩:=jq4 aj al a3 (zag a3)
     clear aj al a3
     have ba:Hid ((ints .i64 af).length=(ints .i64 ae).length):=jh (by rw[zaa,zaa,ax.o,b7.o])
     have b5:Hid ((ints .i64 ae).length=(ints .i64 af).length):=jh (by rw[zaa,zaa,ax.o,b7.o])
     go_upto_region 14 with(first|(refine slb aa an.o q103 aw.o ?_)|(refine slb ad az.o q103 be.o ?_)|(refine ssb aa (ints .i64 af) an.o ba.o be.o (zah _ _) ?_;intro gk C c;have b0:=jh (az.o.grown c (by have:=b.o;simp;omega));have L:=jh c;have bb:=jh C;clear C c)|(refine ssb ad (ints .i64 ae) b0.o b5.o aw.o (zah _ _) ?_;intro f8 C c))
     have x:=jh ((x.o.grown L.o (by have:=b.o;simp;omega)).grown c (by have:=b.o;simp;omega))
     have D:=jh ((D.o.grown L.o (by have:=b.o;simp;omega)).grown c (by have:=b.o;simp;omega))
     have F:=jh ((F.o.grown L.o (by have:=b.o;simp;omega)).grown c (by have:=b.o;simp;omega))
     have t:=jh ((t.o.grown L.o (by have:=b.o;simp;omega)).grown c (by have:=b.o;simp;omega))
     have n:=jh ((n.o.grown L.o (by have:=b.o;simp;omega)).grown c (by have:=b.o;simp;omega))
     have m:=jh (zab (zab m.o L.o (by have:=b.o;omega)) c (by have:=b.o;omega))
     have y:Hid (ElB f8 aa (s.x3)):=jh ⟨af,b7.o,bb.o.grown c (by have:=b.o;simp;omega),bj.o⟩
     have E:Hid (ElB f8 ad (s.x2)):=jh ⟨ae,ax.o,C,bc.o⟩
     clear C c L bb b0 ba b5
     obtain⟨ai,a0,a9,a8⟩:=D.o
     obtain⟨ap,bd,ar,av⟩:=jq4 a9 a8 a0 (zag a0)
     clear a9 a8 a0
     obtain⟨ah,a4,ak,ag⟩:=F.o
     obtain⟨b8,bh,b9,bf⟩:=jq4 ak ag a4 (zag a4)
     clear ak ag a4
     have ba:Hid ((ints .i64 ah).length=(ints .i64 ai).length):=jh (by rw[zaa,zaa,ar.o,b9.o])
     have b5:Hid ((ints .i64 ai).length=(ints .i64 ah).length):=jh (by rw[zaa,zaa,ar.o,b9.o])
     go_wp2_with (first|(refine slb a5 ap.o q103 av.o ?_)|(refine slb a7 b8.o q103 bf.o ?_)|(refine ssb a5 (ints .i64 ah) ap.o ba.o bf.o (zah _ _) ?_;intro gf C c;have b0:=jh (b8.o.grown c (by have:=b.o;simp;omega));have L:=jh c;have bb:=jh C;clear C c)|(refine ssb a7 (ints .i64 ai) b0.o b5.o av.o (zah _ _) ?_;intro ec C c))
     have x:=jh ((x.o.grown L.o (by have:=b.o;simp;omega)).grown c (by have:=b.o;simp;omega))
     have y:=jh ((y.o.grown L.o (by have:=b.o;simp;omega)).grown c (by have:=b.o;simp;omega))
     have E:=jh ((E.o.grown L.o (by have:=b.o;simp;omega)).grown c (by have:=b.o;simp;omega))
     have t:=jh ((t.o.grown L.o (by have:=b.o;simp;omega)).grown c (by have:=b.o;simp;omega))
     have n:=jh ((n.o.grown L.o (by have:=b.o;simp;omega)).grown c (by have:=b.o;simp;omega))
     have m:=jh (zab (zab m.o L.o (by have:=b.o;omega)) c (by have:=b.o;omega))
     have D:Hid (ElB ec a5 (s.z3)):=jh ⟨ah,b9.o,bb.o.grown c (by have:=b.o;simp;omega),bh.o⟩
     have F:Hid (ElB ec a7 (s.z2)):=jh ⟨ai,ar.o,C,bd.o⟩
     clear C c L bb b0 ba b5
     go_meet
     rw[dh.o]
     exact⟨x.o,y.o,D.o,E.o,F.o,t.o,n.o,m.o⟩
    have hI:(bq:Int)=0:=by omega
    have hm:((bq:Int)==1)=false:=by rw[hI];rfl
    have dq:decide ((bq:Int)=1)=false:=by rw[hI];rfl
    have dh:Hid (q=s):=jh (by rw[HQ.o,j];rfl)
    clear hI j
    go_wp2_with fail
    go_meet
    rw[dh.o]
    exact⟨x.o,y.o,D.o,E.o,F.o,t.o,n.o,m.o⟩
   case rest=>
    clear x y D E F t n m HQ
    obtain⟨q1,q2,q3,q4,q5,q6,q7,q8⟩:=hcut
    obtain⟨x,y,D,E,F,t⟩:=jq6 q1 q2 q3 q4 q5 q6
    obtain⟨n,m⟩:=jq2 q7 q8
    clear q1 q2 q3 q4 q5 q6 q7 q8
    generalize wc=wv at*
    go_upto_region 15 with(fail)
    obtain⟨ae,a1,ac,ab⟩:=y.o
    obtain⟨an,bc,ax,aw⟩:=jq4 ac ab a1 (zag a1)
    clear ac ab a1
    obtain⟨ai,a0,a9,a8⟩:=D.o
    obtain⟨ap,bd,ar,av⟩:=jq4 a9 a8 a0 (zag a0)
    clear a9 a8 a0
    go_wp2_with (first|(refine slb aa an.o q103 aw.o ?_)|(refine slb a5 ap.o q103 av.o ?_))
    refine(radd_f wv bc.o bd.o).mono ?_
    rintro e d0 ⟨r,rfl,J,j⟩
    obtain⟨z,hz,lz⟩:=J.form
    subst hz
    obtain⟨x,y,D,E,F⟩:=jq5 (x.o.ext j) (y.o.ext j) (D.o.ext j) (E.o.ext j) (F.o.ext j)
    obtain⟨t,n⟩:=xq2 t n j
    have m:=xxt m j
    clear j
    obtain⟨V,Q,X⟩:=jq3 (Blk.made d0 (ints .i64 (List.replicate 16 0)) 124) (Ext.alloc d0 (.cells (ints .i64 (List.replicate 16 0)).toArray 124)) (zag lz)
    have U:Hid ((ints .i64 z).length=(ints .i64 (List.replicate 16 0)).length):=jh (by rw[zaa,lz];rfl)
    go_upto_region 16 with(refine ssb d0.heap.size (ints .i64 z) V.o U.o X.o (zah _ _) ?_;intro ep C c)
    have l:=jh (zab Q.o c (q101 _))
    obtain⟨TA,N⟩:=nxq d0.heap.size
    have fl:Hid (a7<TA):=jh (by rw[N];exact F.o.lt)
    rw[←N]at C⊢
    obtain⟨x,y,D,E,F⟩:=jq5 (x.o.ext l.o) (y.o.ext l.o) (D.o.ext l.o) (E.o.ext l.o) (F.o.ext l.o)
    obtain⟨t,n⟩:=xq2 t n l.o
    have m:=xxt m l.o
    have I:Hid (ElB ep TA (q.x2+q.z2)):=jh ⟨z,lz,C,J⟩
    have b:=jh (And.intro b.o fl.o)
    clear C c V Q l N J X U lz
    obtain⟨zA,lA,bA,eA⟩:=I.o
    obtain⟨dm,cn,fs,df⟩:=jq4 bA eA lA (zag lA)
    clear bA eA lA
    go_wp2_with (first|(refine slb TA dm.o q103 df.o ?_))
    refine(zcu ep cn.o cn.o).mono ?_
    rintro e d4 ⟨r,rfl,J,j⟩
    obtain⟨z,hz,lz⟩:=J.form
    subst hz
    obtain⟨x,y,D,E,F,I⟩:=jq6 (x.o.ext j) (y.o.ext j) (D.o.ext j) (E.o.ext j) (F.o.ext j) (I.o.ext j)
    obtain⟨t,n⟩:=xq2 t n j
    have m:=xxt m j
    clear j
    obtain⟨V,Q,X⟩:=jq3 (Blk.made d4 (ints .i64 (List.replicate 16 0)) 124) (Ext.alloc d4 (.cells (ints .i64 (List.replicate 16 0)).toArray 124)) (zag lz)
    have U:Hid ((ints .i64 z).length=(ints .i64 (List.replicate 16 0)).length):=jh (by rw[zaa,lz];rfl)
    go_upto_region 17 with(refine ssb d4.heap.size (ints .i64 z) V.o U.o X.o (zah _ _) ?_;intro ej C c)
    have l:=jh (zab Q.o c (q101 _))
    obtain⟨bw,N⟩:=nxq d4.heap.size
    have g0:Hid (TA<bw):=jh (by rw[N];exact I.o.lt)
    rw[←N]at C⊢
    obtain⟨x,y,D,E,F,I⟩:=jq6 (x.o.ext l.o) (y.o.ext l.o) (D.o.ext l.o) (E.o.ext l.o) (F.o.ext l.o) (I.o.ext l.o)
    obtain⟨t,n⟩:=xq2 t n l.o
    have m:=xxt m l.o
    have M:Hid (ElB ej bw ((q.x2+q.z2)*(q.x2+q.z2))):=jh ⟨z,lz,C,J⟩
    have b:=jh (And.intro b.o g0.o)
    clear C c V Q l N J X U lz
    obtain⟨ae,a1,ac,ab⟩:=y.o
    obtain⟨an,bc,ax,aw⟩:=jq4 ac ab a1 (zag a1)
    clear ac ab a1
    obtain⟨ai,a0,a9,a8⟩:=D.o
    obtain⟨ap,bd,ar,av⟩:=jq4 a9 a8 a0 (zag a0)
    clear a9 a8 a0
    go_wp2_with (first|(refine slb aa an.o q103 aw.o ?_)|(refine slb a5 ap.o q103 av.o ?_))
    refine(rsub_f ej bc.o bd.o).mono ?_
    rintro e co ⟨r,rfl,J,j⟩
    obtain⟨z,hz,lz⟩:=J.form
    subst hz
    obtain⟨x,y,D,E,F,I⟩:=jq6 (x.o.ext j) (y.o.ext j) (D.o.ext j) (E.o.ext j) (F.o.ext j) (I.o.ext j)
    have M:=jh (M.o.ext j)
    obtain⟨t,n⟩:=xq2 t n j
    have m:=xxt m j
    clear j
    obtain⟨V,Q,X⟩:=jq3 (Blk.made co (ints .i64 (List.replicate 16 0)) 124) (Ext.alloc co (.cells (ints .i64 (List.replicate 16 0)).toArray 124)) (zag lz)
    have U:Hid ((ints .i64 z).length=(ints .i64 (List.replicate 16 0)).length):=jh (by rw[zaa,lz];rfl)
    go_upto_region 18 with(refine ssb co.heap.size (ints .i64 z) V.o U.o X.o (zah _ _) ?_;intro eg C c)
    have l:=jh (zab Q.o c (q101 _))
    obtain⟨cj,N⟩:=nxq co.heap.size
    have fz:Hid (bw<cj):=jh (by rw[N];exact M.o.lt)
    rw[←N]at C⊢
    obtain⟨x,y,D,E,F,I⟩:=jq6 (x.o.ext l.o) (y.o.ext l.o) (D.o.ext l.o) (E.o.ext l.o) (F.o.ext l.o) (I.o.ext l.o)
    have M:=jh (M.o.ext l.o)
    obtain⟨t,n⟩:=xq2 t n l.o
    have m:=xxt m l.o
    have O:Hid (ElB eg cj (q.x2 - q.z2)):=jh ⟨z,lz,C,J⟩
    have b:=jh (And.intro b.o fz.o)
    clear C c V Q l N J X U lz
    obtain⟨ey,bn,c0,cb⟩:=O.o
    obtain⟨da,cu,fb,di⟩:=jq4 c0 cb bn (zag bn)
    clear c0 cb bn
    go_wp2_with (first|(refine slb cj da.o q103 di.o ?_))
    refine(zcu eg cu.o cu.o).mono ?_
    rintro e d3 ⟨r,rfl,J,j⟩
    obtain⟨z,hz,lz⟩:=J.form
    subst hz
    obtain⟨x,y,D,E,F,I⟩:=jq6 (x.o.ext j) (y.o.ext j) (D.o.ext j) (E.o.ext j) (F.o.ext j) (I.o.ext j)
    obtain⟨M,O⟩:=jq2 (M.o.ext j) (O.o.ext j)
    obtain⟨t,n⟩:=xq2 t n j
    have m:=xxt m j
    clear j
    obtain⟨V,Q,X⟩:=jq3 (Blk.made d3 (ints .i64 (List.replicate 16 0)) 124) (Ext.alloc d3 (.cells (ints .i64 (List.replicate 16 0)).toArray 124)) (zag lz)
    have U:Hid ((ints .i64 z).length=(ints .i64 (List.replicate 16 0)).length):=jh (by rw[zaa,lz];rfl)
    go_upto_region 19 with(refine ssb d3.heap.size (ints .i64 z) V.o U.o X.o (zah _ _) ?_;intro ed C c)
    have l:=jh (zab Q.o c (q101 _))
    obtain⟨cm,N⟩:=nxq d3.heap.size
    have fn:Hid (cj<cm):=jh (by rw[N];exact O.o.lt)
    rw[←N]at C⊢
    obtain⟨x,y,D,E,F,I⟩:=jq6 (x.o.ext l.o) (y.o.ext l.o) (D.o.ext l.o) (E.o.ext l.o) (F.o.ext l.o) (I.o.ext l.o)
    obtain⟨M,O⟩:=jq2 (M.o.ext l.o) (O.o.ext l.o)
    obtain⟨t,n⟩:=xq2 t n l.o
    have m:=xxt m l.o
    have P:Hid (ElB ed cm ((q.x2 - q.z2)*(q.x2 - q.z2))):=jh ⟨z,lz,C,J⟩
    have b:=jh (And.intro b.o fn.o)
    clear C c V Q l N J X U lz
    obtain⟨dp,b6,bk,bl⟩:=M.o
    obtain⟨cg,c5,dz,cd⟩:=jq4 bk bl b6 (zag b6)
    clear bk bl b6
    obtain⟨fo,bm,c3,c6⟩:=P.o
    obtain⟨de,dg,g1,ds⟩:=jq4 c3 c6 bm (zag bm)
    clear c3 c6 bm
    go_wp2_with (first|(refine slb bw cg.o q103 cd.o ?_)|(refine slb cm de.o q103 ds.o ?_))
    refine(rsub_f ed c5.o dg.o).mono ?_
    rintro e cy ⟨r,rfl,J,j⟩
    obtain⟨z,hz,lz⟩:=J.form
    subst hz
    obtain⟨x,y,D,E,F,I⟩:=jq6 (x.o.ext j) (y.o.ext j) (D.o.ext j) (E.o.ext j) (F.o.ext j) (I.o.ext j)
    obtain⟨M,O,P⟩:=jq3 (M.o.ext j) (O.o.ext j) (P.o.ext j)
    obtain⟨t,n⟩:=xq2 t n j
    have m:=xxt m j
    clear j
    obtain⟨V,Q,X⟩:=jq3 (Blk.made cy (ints .i64 (List.replicate 16 0)) 124) (Ext.alloc cy (.cells (ints .i64 (List.replicate 16 0)).toArray 124)) (zag lz)
    have U:Hid ((ints .i64 z).length=(ints .i64 (List.replicate 16 0)).length):=jh (by rw[zaa,lz];rfl)
    go_upto_region 20 with(refine ssb cy.heap.size (ints .i64 z) V.o U.o X.o (zah _ _) ?_;intro aq C c)
    have l:=jh (zab Q.o c (q101 _))
    obtain⟨ce,N⟩:=nxq cy.heap.size
    have fa:Hid (cm<ce):=jh (by rw[N];exact P.o.lt)
    rw[←N]at C⊢
    obtain⟨x,y,D,E,F,I⟩:=jq6 (x.o.ext l.o) (y.o.ext l.o) (D.o.ext l.o) (E.o.ext l.o) (F.o.ext l.o) (I.o.ext l.o)
    obtain⟨M,O,P⟩:=jq3 (M.o.ext l.o) (O.o.ext l.o) (P.o.ext l.o)
    obtain⟨t,n⟩:=xq2 t n l.o
    have m:=xxt m l.o
    have Y:Hid (ElB aq ce (((q.x2+q.z2)*(q.x2+q.z2)) - ((q.x2 - q.z2)*(q.x2 - q.z2)))):=jh ⟨z,lz,C,J⟩
    have b:=jh (And.intro b.o fa.o)
    clear C c V Q l N J X U lz
    obtain⟨af,a3,aj,al⟩:=E.o
    obtain⟨az,bj,b7,be⟩:=jq4 aj al a3 (zag a3)
    clear aj al a3
    obtain⟨ah,a4,ak,ag⟩:=F.o
    obtain⟨b8,bh,b9,bf⟩:=jq4 ak ag a4 (zag a4)
    clear ak ag a4
    obtain⟨zA,lA,bA,eA⟩:=I.o
    obtain⟨dm,cn,fs,df⟩:=jq4 bA eA lA (zag lA)
    clear bA eA lA
    go_wp2_with fail
    try simp only[nm]
    go_cut [17]from 67 to 71 (fun vq wq=>∃g,vq=.pointer (some ⟨g,0,none⟩)∧aq.heap.size≤g∧ElB wq g ((q.x3 - q.z3)*(q.x2+q.z2))∧Ext aq wq)
    case first=>
     have B0:Ext aq aq.drew:=Ext.drew _
     refine wp_region_held_drew (S:=fun w'=>Ext aq w') (by kernel_rfl) B0 (fun R=>?_)
     refine tke 0 (.agg (ints .i64 af).toArray) rfl (sld ad 0 (fun w h=>zax az.o h) q103 be.o) R ?_
     simp only[nm]
     refine tke 1 (.agg (ints .i64 ah).toArray) rfl (sld a7 0 (fun w h=>zax b8.o h) q103 bf.o) R ?_
     simp only[nm]
     refine tke 3 (.agg (ints .i64 zA).toArray) rfl (sld TA 0 (fun w h=>zax dm.o h) q103 df.o) R ?_
     simp only[nm]
     refine Fl.go (f:=5) (d:=17) (zs:=(ints .i64 (List.replicate 16 0))) (T:=124) (B:=(aq).heap.size) ?_ R
     clear R
     refine Fl.step 2 rfl rfl rfl rfl rfl q122 (fun _ _ h1 h2=>h1.trans h2) (fun _ h=>h.size) (fun z1 u K am bs H=>?_)
     have dj:Ext aq z1:=B0.trans am
     clear bs
     go_simp
     refine(rsub_f _ bj.o bh.o).mono ?_
     rintro e m1 ⟨v1,rfl,e1,b1⟩
     obtain⟨z1,am,l1⟩:=e1.form
     subst am
     have N1:Ext aq m1:=dj.trans b1
     refine H.o (.agg (ints .i64 z1).toArray) _ b1 N1 ?_
     clear H K u
     try simp only[nm]
     refine Fl.step 4 rfl rfl rfl rfl rfl q122 (fun _ _ h1 h2=>h1.trans h2) (fun _ h=>h.size) (fun z2 u K ao bs H=>?_)
     have dy:Ext aq z2:=N1.trans ao
     clear bs
     go_simp
     refine(zcu _ e1 cn.o).mono ?_
     rintro e m2 ⟨v2,rfl,e2,b2⟩
     obtain⟨z2,ao,l2⟩:=e2.form
     subst ao
     have N2:Ext aq m2:=dy.trans b2
     refine H.o (.agg (ints .i64 z2).toArray) _ b2 N2 ?_
     clear H K u
     try simp only[nm]
     refine Fl.last rfl rfl rfl rfl q122 (fun _ _ h1 h2=>h1.trans h2) (fun _ h=>h.size) (fun m3 g3 b3 R l3 z3=>?_)
     try simp only[nm]
     have N3:Ext aq m3:=N2.trans b3
     refine rdy 6 rfl fun K H=>?_
     refine zan (by rfl) ?_
     refine zar _ _ _ rfl g3 (ints .i64 z2) rfl rfl _ _ z3 (by rw[zaa,l2];rfl) (zag l2) (zah _ _) ?_
     intro m4 c2 bv
     have N4:Ext aq m4:=zab N3 bv l3
     refine H.o _ _ N4 (fun R=>?_)
     clear H K
     try simp only[nm]
     refine dne ?_
     go_wp2_with fail
     go_meet
     exact⟨_,rfl,l3,⟨z2,l2,c2,e2⟩,N4⟩
    case rest=>
     obtain⟨d2,rfl,ck,ay,G⟩:=hcut
     have fj:Hid (ce<d2):=jh (q116 Y.o.lt ck)
     obtain⟨x,y,D,E,F,I⟩:=jq6 (x.o.ext G) (y.o.ext G) (D.o.ext G) (E.o.ext G) (F.o.ext G) (I.o.ext G)
     obtain⟨M,O,P,Y⟩:=jq4 (M.o.ext G) (O.o.ext G) (P.o.ext G) (Y.o.ext G)
     obtain⟨t,n⟩:=xq2 t n G
     have m:=xxt m G
     obtain⟨Z,b⟩:=jq2 ay (And.intro b.o fj.o)
     clear ay G ck
     generalize wc=au at*
     go_wp2_with fail
     obtain⟨af,a3,aj,al⟩:=E.o
     obtain⟨az,bj,b7,be⟩:=jq4 aj al a3 (zag a3)
     clear aj al a3
     obtain⟨ah,a4,ak,ag⟩:=F.o
     obtain⟨b8,bh,b9,bf⟩:=jq4 ak ag a4 (zag a4)
     clear ak ag a4
     obtain⟨ey,bn,c0,cb⟩:=O.o
     obtain⟨da,cu,fb,di⟩:=jq4 c0 cb bn (zag bn)
     clear c0 cb bn
     go_wp2_with fail
     try simp only[nm]
     go_cut [18]from 72 to 76 (fun vq wq=>∃g,vq=.pointer (some ⟨g,0,none⟩)∧au.heap.size≤g∧ElB wq g ((q.x3+q.z3)*(q.x2 - q.z2))∧Ext au wq)
     case first=>
      have B0:Ext au au.drew:=Ext.drew _
      refine wp_region_held_drew (S:=fun w'=>Ext au w') (by kernel_rfl) B0 (fun R=>?_)
      refine tke 0 (.agg (ints .i64 af).toArray) rfl (sld ad 0 (fun w h=>zax az.o h) q103 be.o) R ?_
      simp only[nm]
      refine tke 1 (.agg (ints .i64 ah).toArray) rfl (sld a7 0 (fun w h=>zax b8.o h) q103 bf.o) R ?_
      simp only[nm]
      refine tke 3 (.agg (ints .i64 ey).toArray) rfl (sld cj 0 (fun w h=>zax da.o h) q103 di.o) R ?_
      simp only[nm]
      refine Fl.go (f:=5) (d:=18) (zs:=(ints .i64 (List.replicate 16 0))) (T:=124) (B:=(au).heap.size) ?_ R
      clear R
      refine Fl.step 2 rfl rfl rfl rfl rfl q122 (fun _ _ h1 h2=>h1.trans h2) (fun _ h=>h.size) (fun z1 u K am bs H=>?_)
      have dj:Ext au z1:=B0.trans am
      clear bs
      go_simp
      refine(radd_f _ bj.o bh.o).mono ?_
      rintro e m1 ⟨v1,rfl,e1,b1⟩
      obtain⟨z1,am,l1⟩:=e1.form
      subst am
      have N1:Ext au m1:=dj.trans b1
      refine H.o (.agg (ints .i64 z1).toArray) _ b1 N1 ?_
      clear H K u
      try simp only[nm]
      refine Fl.step 4 rfl rfl rfl rfl rfl q122 (fun _ _ h1 h2=>h1.trans h2) (fun _ h=>h.size) (fun z2 u K ao bs H=>?_)
      have dy:Ext au z2:=N1.trans ao
      clear bs
      go_simp
      refine(zcu _ e1 cu.o).mono ?_
      rintro e m2 ⟨v2,rfl,e2,b2⟩
      obtain⟨z2,ao,l2⟩:=e2.form
      subst ao
      have N2:Ext au m2:=dy.trans b2
      refine H.o (.agg (ints .i64 z2).toArray) _ b2 N2 ?_
      clear H K u
      try simp only[nm]
      refine Fl.last rfl rfl rfl rfl q122 (fun _ _ h1 h2=>h1.trans h2) (fun _ h=>h.size) (fun m3 g3 b3 R l3 z3=>?_)
      try simp only[nm]
      have N3:Ext au m3:=N2.trans b3
      refine rdy 6 rfl fun K H=>?_
      refine zan (by rfl) ?_
      refine zar _ _ _ rfl g3 (ints .i64 z2) rfl rfl _ _ z3 (by rw[zaa,l2];rfl) (zag l2) (zah _ _) ?_
      intro m4 c2 bv
      have N4:Ext au m4:=zab N3 bv l3
      refine H.o _ _ N4 (fun R=>?_)
      clear H K
      try simp only[nm]
      refine dne ?_
      go_wp2_with fail
      go_meet
      exact⟨_,rfl,l3,⟨z2,l2,c2,e2⟩,N4⟩
     case rest=>
      obtain⟨d5,rfl,ck,ay,G⟩:=hcut
      have fk:Hid (d2<d5):=jh (q116 Z.o.lt ck)
      obtain⟨x,y,D,E,F,I⟩:=jq6 (x.o.ext G) (y.o.ext G) (D.o.ext G) (E.o.ext G) (F.o.ext G) (I.o.ext G)
      obtain⟨M,O,P,Y,Z⟩:=jq5 (M.o.ext G) (O.o.ext G) (P.o.ext G) (Y.o.ext G) (Z.o.ext G)
      obtain⟨t,n⟩:=xq2 t n G
      have m:=xxt m G
      obtain⟨W,b⟩:=jq2 ay (And.intro b.o fk.o)
      clear ay G ck
      generalize wc=g8 at*
      obtain⟨g6,bo,c9,cf⟩:=Z.o
      obtain⟨dl,dx,gb,dc⟩:=jq4 c9 cf bo (zag bo)
      clear c9 cf bo
      obtain⟨f9,bu,c4,bz⟩:=W.o
      obtain⟨dt,dr,fd,dv⟩:=jq4 c4 bz bu (zag bu)
      clear c4 bz bu
      go_wp2_with (first|(refine slb d2 dl.o q103 dc.o ?_)|(refine slb d5 dt.o q103 dv.o ?_))
      refine(radd_f g8 dx.o dr.o).mono ?_
      rintro e ct ⟨r,rfl,J,j⟩
      obtain⟨z,hz,lz⟩:=J.form
      subst hz
      obtain⟨x,y,D,E,F,I⟩:=jq6 (x.o.ext j) (y.o.ext j) (D.o.ext j) (E.o.ext j) (F.o.ext j) (I.o.ext j)
      obtain⟨M,O,P,Y,Z,W⟩:=jq6 (M.o.ext j) (O.o.ext j) (P.o.ext j) (Y.o.ext j) (Z.o.ext j) (W.o.ext j)
      obtain⟨t,n⟩:=xq2 t n j
      have m:=xxt m j
      clear j
      obtain⟨V,Q,X⟩:=jq3 (Blk.made ct (ints .i64 (List.replicate 16 0)) 124) (Ext.alloc ct (.cells (ints .i64 (List.replicate 16 0)).toArray 124)) (zag lz)
      have U:Hid ((ints .i64 z).length=(ints .i64 (List.replicate 16 0)).length):=jh (by rw[zaa,lz];rfl)
      go_upto_region 23 with(refine ssb ct.heap.size (ints .i64 z) V.o U.o X.o (zah _ _) ?_;intro f4 C c)
      have l:=jh (zab Q.o c (q101 _))
      obtain⟨TS,N⟩:=nxq ct.heap.size
      have ff:Hid (d5<TS):=jh (by rw[N];exact W.o.lt)
      rw[←N]at C⊢
      obtain⟨x,y,D,E,F,I⟩:=jq6 (x.o.ext l.o) (y.o.ext l.o) (D.o.ext l.o) (E.o.ext l.o) (F.o.ext l.o) (I.o.ext l.o)
      obtain⟨M,O,P,Y,Z,W⟩:=jq6 (M.o.ext l.o) (O.o.ext l.o) (P.o.ext l.o) (Y.o.ext l.o) (Z.o.ext l.o) (W.o.ext l.o)
      obtain⟨t,n⟩:=xq2 t n l.o
      have m:=xxt m l.o
      have ES:Hid (ElB f4 TS (((q.x3 - q.z3)*(q.x2+q.z2))+((q.x3+q.z3)*(q.x2 - q.z2)))):=jh ⟨z,lz,C,J⟩
      have b:=jh (And.intro b.o ff.o)
      clear C c V Q l N J X U lz
      obtain⟨g6,bo,c9,cf⟩:=Z.o
      obtain⟨dl,dx,gb,dc⟩:=jq4 c9 cf bo (zag bo)
      clear c9 cf bo
      obtain⟨f9,bu,c4,bz⟩:=W.o
      obtain⟨dt,dr,fd,dv⟩:=jq4 c4 bz bu (zag bu)
      clear c4 bz bu
      go_wp2_with (first|(refine slb d2 dl.o q103 dc.o ?_)|(refine slb d5 dt.o q103 dv.o ?_))
      refine(rsub_f f4 dx.o dr.o).mono ?_
      rintro e cw ⟨r,rfl,J,j⟩
      obtain⟨z,hz,lz⟩:=J.form
      subst hz
      obtain⟨x,y,D,E,F,I⟩:=jq6 (x.o.ext j) (y.o.ext j) (D.o.ext j) (E.o.ext j) (F.o.ext j) (I.o.ext j)
      obtain⟨M,O,P,Y,Z,W⟩:=jq6 (M.o.ext j) (O.o.ext j) (P.o.ext j) (Y.o.ext j) (Z.o.ext j) (W.o.ext j)
      have ES:=jh (ES.o.ext j)
      obtain⟨t,n⟩:=xq2 t n j
      have m:=xxt m j
      clear j
      obtain⟨V,Q,X⟩:=jq3 (Blk.made cw (ints .i64 (List.replicate 16 0)) 124) (Ext.alloc cw (.cells (ints .i64 (List.replicate 16 0)).toArray 124)) (zag lz)
      have U:Hid ((ints .i64 z).length=(ints .i64 (List.replicate 16 0)).length):=jh (by rw[zaa,lz];rfl)
      go_upto_region 24 with(refine ssb cw.heap.size (ints .i64 z) V.o U.o X.o (zah _ _) ?_;intro f3 C c)
      have l:=jh (zab Q.o c (q101 _))
      obtain⟨cq,N⟩:=nxq cw.heap.size
      have fm:Hid (TS<cq):=jh (by rw[N];exact ES.o.lt)
      rw[←N]at C⊢
      obtain⟨x,y,D,E,F,I⟩:=jq6 (x.o.ext l.o) (y.o.ext l.o) (D.o.ext l.o) (E.o.ext l.o) (F.o.ext l.o) (I.o.ext l.o)
      obtain⟨M,O,P,Y,Z,W⟩:=jq6 (M.o.ext l.o) (O.o.ext l.o) (P.o.ext l.o) (Y.o.ext l.o) (Z.o.ext l.o) (W.o.ext l.o)
      have ES:=jh (ES.o.ext l.o)
      obtain⟨t,n⟩:=xq2 t n l.o
      have m:=xxt m l.o
      have a2:Hid (ElB f3 cq (((q.x3 - q.z3)*(q.x2+q.z2)) - ((q.x3+q.z3)*(q.x2 - q.z2)))):=jh ⟨z,lz,C,J⟩
      have b:=jh (And.intro b.o fm.o)
      clear C c V Q l N J X U lz
      obtain⟨zS,lS,bS,eS⟩:=ES.o
      obtain⟨fg,eu,gj,g9⟩:=jq4 bS eS lS (zag lS)
      clear bS eS lS
      go_wp2_with (first|(refine slb TS fg.o q103 g9.o ?_))
      refine(zcu f3 eu.o eu.o).mono ?_
      rintro e gl ⟨r,rfl,J,j⟩
      obtain⟨z,hz,lz⟩:=J.form
      subst hz
      obtain⟨x,y,D,E,F,I⟩:=jq6 (x.o.ext j) (y.o.ext j) (D.o.ext j) (E.o.ext j) (F.o.ext j) (I.o.ext j)
      obtain⟨M,O,P,Y,Z,W⟩:=jq6 (M.o.ext j) (O.o.ext j) (P.o.ext j) (Y.o.ext j) (Z.o.ext j) (W.o.ext j)
      obtain⟨ES,a2⟩:=jq2 (ES.o.ext j) (a2.o.ext j)
      obtain⟨t,n⟩:=xq2 t n j
      have m:=xxt m j
      clear j
      obtain⟨af,a3,aj,al⟩:=E.o
      obtain⟨az,bj,b7,be⟩:=jq4 aj al a3 (zag a3)
      clear aj al a3
      have X:=jh (zag lz)
      have U:Hid ((ints .i64 z).length=(ints .i64 af).length):=jh (by rw[zaa,zaa,lz,b7.o])
      go_upto_region 25 with(refine ssb ad (ints .i64 z) az.o U.o X.o (zah _ _) ?_;intro br C c)
      have x:=jh (x.o.grown c (by have:=b.o;simp;omega))
      have y:=jh (y.o.grown c (by have:=b.o;simp;omega))
      have D:=jh (D.o.grown c (by have:=b.o;simp;omega))
      have F:=jh (F.o.grown c (by have:=b.o;simp;omega))
      have I:=jh (I.o.grown c (by have:=b.o;simp;omega))
      have M:=jh (M.o.grown c (by have:=b.o;simp;omega))
      have O:=jh (O.o.grown c (by have:=b.o;simp;omega))
      have P:=jh (P.o.grown c (by have:=b.o;simp;omega))
      have Y:=jh (Y.o.grown c (by have:=b.o;simp;omega))
      have Z:=jh (Z.o.grown c (by have:=b.o;simp;omega))
      have W:=jh (W.o.grown c (by have:=b.o;simp;omega))
      have ES:=jh (ES.o.grown c (by have:=b.o;simp;omega))
      have a2:=jh (a2.o.grown c (by have:=b.o;simp;omega))
      have t:=jh (t.o.grown c (by have:=b.o;simp;omega))
      have n:=jh (n.o.grown c (by have:=b.o;simp;omega))
      have m:=jh (zab m.o c (by have:=b.o;omega))
      have E:Hid (ElB br ad ((((q.x3 - q.z3)*(q.x2+q.z2))+((q.x3+q.z3)*(q.x2 - q.z2)))*(((q.x3 - q.z3)*(q.x2+q.z2))+((q.x3+q.z3)*(q.x2 - q.z2))))):=jh ⟨z,lz,C,J⟩
      clear C c J X U lz
      obtain⟨c7,bp,ca,cc⟩:=x.o
      obtain⟨cv,d7,du,c8⟩:=jq4 ca cc bp (zag bp)
      clear ca cc bp
      obtain⟨ea,d9,e6,ev⟩:=a2.o
      obtain⟨e9,et,gc,f6⟩:=jq4 e6 ev d9 (zag d9)
      clear e6 ev d9
      obtain⟨ah,a4,ak,ag⟩:=F.o
      obtain⟨b8,bh,b9,bf⟩:=jq4 ak ag a4 (zag a4)
      clear ak ag a4
      go_wp2_with fail
      try simp only[nm]
      go_cut [86]from 87 to 90 (fun vq wq=>∃wx,Ext br wx∧wx.grownBy wq (some a7)∧ElB wq a7 (a6*((((q.x3 - q.z3)*(q.x2+q.z2)) - ((q.x3+q.z3)*(q.x2 - q.z2)))*(((q.x3 - q.z3)*(q.x2+q.z2)) - ((q.x3+q.z3)*(q.x2 - q.z2))))))
      case first=>
       have B0:Ext br br.drew:=Ext.drew _
       refine wp_region_held_drew (S:=fun w'=>Far (a7) br w') (by kernel_rfl) (zap B0) (fun R=>?_)
       refine tke 0 (.agg (ints .i64 c7).toArray) rfl (sld bi 0 (fun w h=>zat cv.o (by have:=b.o;omega) h) q103 c8.o) R ?_
       simp only[nm]
       refine tke 1 (.agg (ints .i64 ea).toArray) rfl (sld cq 0 (fun w h=>zat e9.o (by have:=b.o;omega) h) q103 f6.o) R ?_
       simp only[nm]
       refine tke 2 (.agg (ints .i64 ea).toArray) rfl (sld cq 0 (fun w h=>zat e9.o (by have:=b.o;omega) h) q103 f6.o) R ?_
       simp only[nm]
       refine rdy 3 rfl fun K H=>?_
       go_simp
       refine(zcu _ et.o et.o).mono ?_
       rintro e m1 ⟨v1,rfl,e1,b1⟩
       obtain⟨z1,am,l1⟩:=e1.form
       subst am
       have N1:Ext br m1:=B0.trans b1
       refine H.o _ _ (zap N1) (fun R=>?_)
       clear H K
       try simp only[nm]
       refine rdy 4 rfl fun K H=>?_
       go_simp
       refine(zcu _ d7.o e1).mono ?_
       rintro e m2 ⟨v2,rfl,e2,b2⟩
       obtain⟨z2,ao,l2⟩:=e2.form
       subst ao
       have N2:Ext br m2:=N1.trans b2
       refine H.o _ _ (zap N2) (fun R=>?_)
       clear H K
       try simp only[nm]
       refine rdy 5 rfl fun K H=>?_
       refine zan (by rfl) ?_
       refine zar _ _ _ rfl a7 (ints .i64 z2) rfl rfl _ _ (zak b8.o N2) (by rw[zaa,zaa,l2,b9.o]) (zag l2) (zah _ _) ?_
       intro m3 fy ee
       refine H.o _ _ (zby N2 ee) (fun R=>?_)
       clear H K
       try simp only[nm]
       refine dne ?_
       go_wp2_with fail
       go_meet
       exact⟨_,N2,ee,⟨z2,l2,fy,e2⟩⟩
      case rest=>
       obtain⟨wx,G,c,ay⟩:=hcut
       obtain⟨x,y,D,E,F,I⟩:=jq6 (x.o.ext G) (y.o.ext G) (D.o.ext G) (E.o.ext G) (F.o.ext G) (I.o.ext G)
       obtain⟨M,O,P,Y,Z,W⟩:=jq6 (M.o.ext G) (O.o.ext G) (P.o.ext G) (Y.o.ext G) (Z.o.ext G) (W.o.ext G)
       obtain⟨ES,a2⟩:=jq2 (ES.o.ext G) (a2.o.ext G)
       obtain⟨t,n⟩:=xq2 t n G
       have m:=xxt m G
       have x:=jh (x.o.grown c (by have:=b.o;simp;omega))
       have y:=jh (y.o.grown c (by have:=b.o;simp;omega))
       have D:=jh (D.o.grown c (by have:=b.o;simp;omega))
       have E:=jh (E.o.grown c (by have:=b.o;simp;omega))
       have I:=jh (I.o.grown c (by have:=b.o;simp;omega))
       have M:=jh (M.o.grown c (by have:=b.o;simp;omega))
       have O:=jh (O.o.grown c (by have:=b.o;simp;omega))
       have P:=jh (P.o.grown c (by have:=b.o;simp;omega))
       have Y:=jh (Y.o.grown c (by have:=b.o;simp;omega))
       have Z:=jh (Z.o.grown c (by have:=b.o;simp;omega))
       have W:=jh (W.o.grown c (by have:=b.o;simp;omega))
       have ES:=jh (ES.o.grown c (by have:=b.o;simp;omega))
       have a2:=jh (a2.o.grown c (by have:=b.o;simp;omega))
       have t:=jh (t.o.grown c (by have:=b.o;simp;omega))
       have n:=jh (n.o.grown c (by have:=b.o;simp;omega))
       have m:=jh (zab m.o c (by have:=b.o;omega))
       have F:=jh ay
       clear ay G c
       generalize wc=fe at*
       obtain⟨dp,b6,bk,bl⟩:=M.o
       obtain⟨cg,c5,dz,cd⟩:=jq4 bk bl b6 (zag b6)
       clear bk bl b6
       obtain⟨fo,bm,c3,c6⟩:=P.o
       obtain⟨de,dg,g1,ds⟩:=jq4 c3 c6 bm (zag bm)
       clear c3 c6 bm
       go_wp2_with (first|(refine slb bw cg.o q103 cd.o ?_)|(refine slb cm de.o q103 ds.o ?_))
       refine(zcu fe c5.o dg.o).mono ?_
       rintro e gd ⟨r,rfl,J,j⟩
       obtain⟨z,hz,lz⟩:=J.form
       subst hz
       obtain⟨x,y,D,E,F,I⟩:=jq6 (x.o.ext j) (y.o.ext j) (D.o.ext j) (E.o.ext j) (F.o.ext j) (I.o.ext j)
       obtain⟨M,O,P,Y,Z,W⟩:=jq6 (M.o.ext j) (O.o.ext j) (P.o.ext j) (Y.o.ext j) (Z.o.ext j) (W.o.ext j)
       obtain⟨ES,a2⟩:=jq2 (ES.o.ext j) (a2.o.ext j)
       obtain⟨t,n⟩:=xq2 t n j
       have m:=xxt m j
       clear j
       obtain⟨ae,a1,ac,ab⟩:=y.o
       obtain⟨an,bc,ax,aw⟩:=jq4 ac ab a1 (zag a1)
       clear ac ab a1
       have X:=jh (zag lz)
       have U:Hid ((ints .i64 z).length=(ints .i64 ae).length):=jh (by rw[zaa,zaa,lz,ax.o])
       go_upto_region 27 with(refine ssb aa (ints .i64 z) an.o U.o X.o (zah _ _) ?_;intro bg C c)
       have x:=jh (x.o.grown c (by have:=b.o;simp;omega))
       have D:=jh (D.o.grown c (by have:=b.o;simp;omega))
       have E:=jh (E.o.grown c (by have:=b.o;simp;omega))
       have F:=jh (F.o.grown c (by have:=b.o;simp;omega))
       have I:=jh (I.o.grown c (by have:=b.o;simp;omega))
       have M:=jh (M.o.grown c (by have:=b.o;simp;omega))
       have O:=jh (O.o.grown c (by have:=b.o;simp;omega))
       have P:=jh (P.o.grown c (by have:=b.o;simp;omega))
       have Y:=jh (Y.o.grown c (by have:=b.o;simp;omega))
       have Z:=jh (Z.o.grown c (by have:=b.o;simp;omega))
       have W:=jh (W.o.grown c (by have:=b.o;simp;omega))
       have ES:=jh (ES.o.grown c (by have:=b.o;simp;omega))
       have a2:=jh (a2.o.grown c (by have:=b.o;simp;omega))
       have t:=jh (t.o.grown c (by have:=b.o;simp;omega))
       have n:=jh (n.o.grown c (by have:=b.o;simp;omega))
       have m:=jh (zab m.o c (by have:=b.o;omega))
       have y:Hid (ElB bg aa (((q.x2+q.z2)*(q.x2+q.z2))*((q.x2 - q.z2)*(q.x2 - q.z2)))):=jh ⟨z,lz,C,J⟩
       clear C c J X U lz
       obtain⟨f2,dd,ex,eo⟩:=Y.o
       obtain⟨ew,e5,gh,eh⟩:=jq4 ex eo dd (zag dd)
       clear ex eo dd
       obtain⟨dp,b6,bk,bl⟩:=M.o
       obtain⟨cg,c5,dz,cd⟩:=jq4 bk bl b6 (zag b6)
       clear bk bl b6
       obtain⟨ai,a0,a9,a8⟩:=D.o
       obtain⟨ap,bd,ar,av⟩:=jq4 a9 a8 a0 (zag a0)
       clear a9 a8 a0
       go_wp2_with fail
       try simp only[nm]
       go_cut [94]from 95 to 100 (fun vq wq=>∃wx,Ext bg wx∧wx.grownBy wq (some a5)∧ElB wq a5 ((((q.x2+q.z2)*(q.x2+q.z2)) - ((q.x2 - q.z2)*(q.x2 - q.z2)))*(((q.x2+q.z2)*(q.x2+q.z2))+fp 121665*(((q.x2+q.z2)*(q.x2+q.z2)) - ((q.x2 - q.z2)*(q.x2 - q.z2))))))
       case first=>
        have B0:Ext bg bg.drew:=Ext.drew _
        refine wp_region_held_drew (S:=fun w'=>Far (a5) bg w') (by kernel_rfl) (zap B0) (fun R=>?_)
        refine tke 0 (.agg (ints .i64 f2).toArray) rfl (sld ce 0 (fun w h=>zat ew.o (by have:=b.o;omega) h) q103 eh.o) R ?_
        simp only[nm]
        refine tke 1 (.agg (ints .i64 dp).toArray) rfl (sld bw 0 (fun w h=>zat cg.o (by have:=b.o;omega) h) q103 cd.o) R ?_
        simp only[nm]
        refine tke 3 (.agg (ints .i64 f2).toArray) rfl (sld ce 0 (fun w h=>zat ew.o (by have:=b.o;omega) h) q103 eh.o) R ?_
        simp only[nm]
        refine rdy 2 rfl fun K H=>?_
        go_simp
        refine(rone_f 121665 _ (by omega) (by omega)).mono ?_
        rintro e m1 ⟨v1,rfl,e1,b1⟩
        obtain⟨z1,am,l1⟩:=e1.form
        subst am
        have N1:Ext bg m1:=B0.trans b1
        refine H.o _ _ (zap N1) (fun R=>?_)
        clear H K
        try simp only[nm]
        refine rdy 4 rfl fun K H=>?_
        go_simp
        refine(zcu _ e1 e5.o).mono ?_
        rintro e m2 ⟨v2,rfl,e2,b2⟩
        obtain⟨z2,ao,l2⟩:=e2.form
        subst ao
        have N2:Ext bg m2:=N1.trans b2
        refine H.o _ _ (zap N2) (fun R=>?_)
        clear H K
        try simp only[nm]
        refine rdy 5 rfl fun K H=>?_
        go_simp
        refine(radd_f _ c5.o e2).mono ?_
        rintro e m3 ⟨v3,rfl,e3,b3⟩
        obtain⟨z3,g4,l3⟩:=e3.form
        subst g4
        have N3:Ext bg m3:=N2.trans b3
        refine H.o _ _ (zap N3) (fun R=>?_)
        clear H K
        try simp only[nm]
        refine rdy 6 rfl fun K H=>?_
        go_simp
        refine(zcu _ e5.o e3).mono ?_
        rintro e m4 ⟨v4,rfl,e4,b4⟩
        obtain⟨z4,fu,l4⟩:=e4.form
        subst fu
        have N4:Ext bg m4:=N3.trans b4
        refine H.o _ _ (zap N4) (fun R=>?_)
        clear H K
        try simp only[nm]
        refine rdy 7 rfl fun K H=>?_
        refine zan (by rfl) ?_
        refine zar _ _ _ rfl a5 (ints .i64 z4) rfl rfl _ _ (zak ap.o N4) (by rw[zaa,zaa,l4,ar.o]) (zag l4) (zah _ _) ?_
        intro m5 fx ei
        refine H.o _ _ (zby N4 ei) (fun R=>?_)
        clear H K
        try simp only[nm]
        refine dne ?_
        go_wp2_with fail
        go_meet
        exact⟨_,N4,ei,⟨z4,l4,fx,e4⟩⟩
       case rest=>
        obtain⟨wx,G,c,ay⟩:=hcut
        obtain⟨x,y,D,E,F,I⟩:=jq6 (x.o.ext G) (y.o.ext G) (D.o.ext G) (E.o.ext G) (F.o.ext G) (I.o.ext G)
        obtain⟨M,O,P,Y,Z,W⟩:=jq6 (M.o.ext G) (O.o.ext G) (P.o.ext G) (Y.o.ext G) (Z.o.ext G) (W.o.ext G)
        obtain⟨ES,a2⟩:=jq2 (ES.o.ext G) (a2.o.ext G)
        obtain⟨t,n⟩:=xq2 t n G
        have m:=xxt m G
        have x:=jh (x.o.grown c (by have:=b.o;simp;omega))
        have y:=jh (y.o.grown c (by have:=b.o;simp;omega))
        have E:=jh (E.o.grown c (by have:=b.o;simp;omega))
        have F:=jh (F.o.grown c (by have:=b.o;simp;omega))
        have I:=jh (I.o.grown c (by have:=b.o;simp;omega))
        have M:=jh (M.o.grown c (by have:=b.o;simp;omega))
        have O:=jh (O.o.grown c (by have:=b.o;simp;omega))
        have P:=jh (P.o.grown c (by have:=b.o;simp;omega))
        have Y:=jh (Y.o.grown c (by have:=b.o;simp;omega))
        have Z:=jh (Z.o.grown c (by have:=b.o;simp;omega))
        have W:=jh (W.o.grown c (by have:=b.o;simp;omega))
        have ES:=jh (ES.o.grown c (by have:=b.o;simp;omega))
        have a2:=jh (a2.o.grown c (by have:=b.o;simp;omega))
        have t:=jh (t.o.grown c (by have:=b.o;simp;omega))
        have n:=jh (n.o.grown c (by have:=b.o;simp;omega))
        have m:=jh (zab m.o c (by have:=b.o;omega))
        have D:=jh ay
        clear ay G c
        generalize wc=gi at*
        go_upto_region 28 with(fail)
        rcases e0.o with j|j
        ·have hI:(bq:Int)=1:=by omega
         have hm:((bq:Int)==1)=true:=by rw[hI];rfl
         have dq:decide ((bq:Int)=1)=true:=by rw[hI];rfl
         have HG:Hid (lrun a6 (leN cl) (k+1)=(q.step a6).swap):=jh (by rw[HG.o,j];rfl)
         clear hI j
         go_upto_region 29 with(fail)
         obtain⟨ae,a1,ac,ab⟩:=y.o
         obtain⟨an,bc,ax,aw⟩:=jq4 ac ab a1 (zag a1)
         clear ac ab a1
         obtain⟨af,a3,aj,al⟩:=E.o
         obtain⟨az,bj,b7,be⟩:=jq4 aj al a3 (zag a3)
         clear aj al a3
         have ba:Hid ((ints .i64 af).length=(ints .i64 ae).length):=jh (by rw[zaa,zaa,ax.o,b7.o])
         have b5:Hid ((ints .i64 ae).length=(ints .i64 af).length):=jh (by rw[zaa,zaa,ax.o,b7.o])
         go_upto_region 30 with(first|(refine slb aa an.o q103 aw.o ?_)|(refine slb ad az.o q103 be.o ?_)|(refine ssb aa (ints .i64 af) an.o ba.o be.o (zah _ _) ?_;intro gg C c;have b0:=jh (az.o.grown c (by have:=b.o;simp;omega));have L:=jh c;have bb:=jh C;clear C c)|(refine ssb ad (ints .i64 ae) b0.o b5.o aw.o (zah _ _) ?_;intro e7 C c))
         have x:=jh ((x.o.grown L.o (by have:=b.o;simp;omega)).grown c (by have:=b.o;simp;omega))
         have D:=jh ((D.o.grown L.o (by have:=b.o;simp;omega)).grown c (by have:=b.o;simp;omega))
         have F:=jh ((F.o.grown L.o (by have:=b.o;simp;omega)).grown c (by have:=b.o;simp;omega))
         have I:=jh ((I.o.grown L.o (by have:=b.o;simp;omega)).grown c (by have:=b.o;simp;omega))
         have M:=jh ((M.o.grown L.o (by have:=b.o;simp;omega)).grown c (by have:=b.o;simp;omega))
         have O:=jh ((O.o.grown L.o (by have:=b.o;simp;omega)).grown c (by have:=b.o;simp;omega))
         have P:=jh ((P.o.grown L.o (by have:=b.o;simp;omega)).grown c (by have:=b.o;simp;omega))
         have Y:=jh ((Y.o.grown L.o (by have:=b.o;simp;omega)).grown c (by have:=b.o;simp;omega))
         have Z:=jh ((Z.o.grown L.o (by have:=b.o;simp;omega)).grown c (by have:=b.o;simp;omega))
         have W:=jh ((W.o.grown L.o (by have:=b.o;simp;omega)).grown c (by have:=b.o;simp;omega))
         have ES:=jh ((ES.o.grown L.o (by have:=b.o;simp;omega)).grown c (by have:=b.o;simp;omega))
         have a2:=jh ((a2.o.grown L.o (by have:=b.o;simp;omega)).grown c (by have:=b.o;simp;omega))
         have t:=jh ((t.o.grown L.o (by have:=b.o;simp;omega)).grown c (by have:=b.o;simp;omega))
         have n:=jh ((n.o.grown L.o (by have:=b.o;simp;omega)).grown c (by have:=b.o;simp;omega))
         have m:=jh (zab (zab m.o L.o (by have:=b.o;omega)) c (by have:=b.o;omega))
         have y:Hid (ElB e7 aa ((((q.x3 - q.z3)*(q.x2+q.z2))+((q.x3+q.z3)*(q.x2 - q.z2)))*(((q.x3 - q.z3)*(q.x2+q.z2))+((q.x3+q.z3)*(q.x2 - q.z2))))):=jh ⟨af,b7.o,bb.o.grown c (by have:=b.o;simp;omega),bj.o⟩
         have E:Hid (ElB e7 ad (((q.x2+q.z2)*(q.x2+q.z2))*((q.x2 - q.z2)*(q.x2 - q.z2)))):=jh ⟨ae,ax.o,C,bc.o⟩
         clear C c L bb b0 ba b5
         obtain⟨ai,a0,a9,a8⟩:=D.o
         obtain⟨ap,bd,ar,av⟩:=jq4 a9 a8 a0 (zag a0)
         clear a9 a8 a0
         obtain⟨ah,a4,ak,ag⟩:=F.o
         obtain⟨b8,bh,b9,bf⟩:=jq4 ak ag a4 (zag a4)
         clear ak ag a4
         have ba:Hid ((ints .i64 ah).length=(ints .i64 ai).length):=jh (by rw[zaa,zaa,ar.o,b9.o])
         have b5:Hid ((ints .i64 ai).length=(ints .i64 ah).length):=jh (by rw[zaa,zaa,ar.o,b9.o])
         go_wp2_with (first|(refine slb a5 ap.o q103 av.o ?_)|(refine slb a7 b8.o q103 bf.o ?_)|(refine ssb a5 (ints .i64 ah) ap.o ba.o bf.o (zah _ _) ?_;intro ge C c;have b0:=jh (b8.o.grown c (by have:=b.o;simp;omega));have L:=jh c;have bb:=jh C;clear C c)|(refine ssb a7 (ints .i64 ai) b0.o b5.o av.o (zah _ _) ?_;intro em C c))
         have x:=jh ((x.o.grown L.o (by have:=b.o;simp;omega)).grown c (by have:=b.o;simp;omega))
         have y:=jh ((y.o.grown L.o (by have:=b.o;simp;omega)).grown c (by have:=b.o;simp;omega))
         have E:=jh ((E.o.grown L.o (by have:=b.o;simp;omega)).grown c (by have:=b.o;simp;omega))
         have I:=jh ((I.o.grown L.o (by have:=b.o;simp;omega)).grown c (by have:=b.o;simp;omega))
         have M:=jh ((M.o.grown L.o (by have:=b.o;simp;omega)).grown c (by have:=b.o;simp;omega))
         have O:=jh ((O.o.grown L.o (by have:=b.o;simp;omega)).grown c (by have:=b.o;simp;omega))
         have P:=jh ((P.o.grown L.o (by have:=b.o;simp;omega)).grown c (by have:=b.o;simp;omega))
         have Y:=jh ((Y.o.grown L.o (by have:=b.o;simp;omega)).grown c (by have:=b.o;simp;omega))
         have Z:=jh ((Z.o.grown L.o (by have:=b.o;simp;omega)).grown c (by have:=b.o;simp;omega))
         have W:=jh ((W.o.grown L.o (by have:=b.o;simp;omega)).grown c (by have:=b.o;simp;omega))
         have ES:=jh ((ES.o.grown L.o (by have:=b.o;simp;omega)).grown c (by have:=b.o;simp;omega))
         have a2:=jh ((a2.o.grown L.o (by have:=b.o;simp;omega)).grown c (by have:=b.o;simp;omega))
         have t:=jh ((t.o.grown L.o (by have:=b.o;simp;omega)).grown c (by have:=b.o;simp;omega))
         have n:=jh ((n.o.grown L.o (by have:=b.o;simp;omega)).grown c (by have:=b.o;simp;omega))
         have m:=jh (zab (zab m.o L.o (by have:=b.o;omega)) c (by have:=b.o;omega))
         have D:Hid (ElB em a5 (a6*((((q.x3 - q.z3)*(q.x2+q.z2)) - ((q.x3+q.z3)*(q.x2 - q.z2)))*(((q.x3 - q.z3)*(q.x2+q.z2)) - ((q.x3+q.z3)*(q.x2 - q.z2)))))):=jh ⟨ah,b9.o,bb.o.grown c (by have:=b.o;simp;omega),bh.o⟩
         have F:Hid (ElB em a7 ((((q.x2+q.z2)*(q.x2+q.z2)) - ((q.x2 - q.z2)*(q.x2 - q.z2)))*(((q.x2+q.z2)*(q.x2+q.z2))+fp 121665*(((q.x2+q.z2)*(q.x2+q.z2)) - ((q.x2 - q.z2)*(q.x2 - q.z2)))))):=jh ⟨ai,ar.o,C,bd.o⟩
         clear C c L bb b0 ba b5
         go_roundw
         case rel=>exact⟨k+1,by omega,by go_num,x.o,(by rw[HG.o];exact y.o),(by rw[HG.o];exact D.o),(by rw[HG.o];exact E.o),(by rw[HG.o];have h:=F.o;rw[fp_lit]at h;exact h),t.o,n.o,m.o⟩
         case measure=>simp[intOf];omega
        have hI:(bq:Int)=0:=by omega
        have hm:((bq:Int)==1)=false:=by rw[hI];rfl
        have dq:decide ((bq:Int)=1)=false:=by rw[hI];rfl
        have HG:Hid (lrun a6 (leN cl) (k+1)=q.step a6):=jh (by rw[HG.o,j];rfl)
        clear hI j
        go_wp2_with fail
        go_roundw
        case rel=>exact⟨k+1,by omega,by go_num,x.o,(by rw[HG.o];exact y.o),(by rw[HG.o];have h:=D.o;rw[fp_lit]at h;exact h),(by rw[HG.o];exact E.o),(by rw[HG.o];exact F.o),t.o,n.o,m.o⟩
        case measure=>simp[intOf];omega
  have fc:k=255:=by omega
  subst fc
  have HF:Hid (nbF (s.x2*fi s.z2)=ladB kb ub):=jh (by rw[hs,fv.o,fq.o,ft.o];rfl)
  clear hs
  go_wp2_with fail
  obtain⟨ae,a1,ac,ab⟩:=y.o
  obtain⟨an,bc,ax,aw⟩:=jq4 ac ab a1 (zag a1)
  clear ac ab a1
  obtain⟨ai,a0,a9,a8⟩:=D.o
  obtain⟨ap,bd,ar,av⟩:=jq4 a9 a8 a0 (zag a0)
  clear a9 a8 a0
  have B0:Ext wr wr.drew:=Ext.drew _
  refine wp_region_held_drew (S:=fun w'=>Far (A+1+1) wr w') (by kernel_rfl) (zap B0) (fun R=>?_)
  refine tke 0 (.agg (ints .i64 ae).toArray) rfl (sld aa 0 (fun w h=>zat an.o (by have:=b.o;omega) h) q103 aw.o) R ?_
  simp only[nm]
  refine tke 1 (.agg (ints .i64 ai).toArray) rfl (sld a5 0 (fun w h=>zat ap.o (by have:=b.o;omega) h) q103 av.o) R ?_
  simp only[nm]
  refine rdy 2 rfl fun K H=>?_
  go_simp
  refine(rinv_f _ bd.o).mono ?_
  rintro e m1 ⟨v1,rfl,e1,b1⟩
  obtain⟨z1,am,l1⟩:=e1.form
  subst am
  have N1:Ext wr m1:=B0.trans b1
  refine H.o _ _ (zap N1) (fun R=>?_)
  clear H K
  try simp only[nm]
  refine rdy 3 rfl fun K H=>?_
  go_simp
  refine(zcu _ bc.o e1).mono ?_
  rintro e m2 ⟨v2,rfl,e2,b2⟩
  obtain⟨z2,ao,l2⟩:=e2.form
  subst ao
  have N2:Ext wr m2:=N1.trans b2
  refine H.o _ _ (zap N2) (fun R=>?_)
  clear H K
  try simp only[nm]
  refine rdy 4 rfl fun K H=>?_
  go_simp
  refine(rout_f _ e2).mono ?_
  rintro e m3 ⟨rfl,b3⟩
  have N3:Ext wr m3:=N2.trans b3
  refine H.o _ _ (zap N3) (fun R=>?_)
  clear H K
  try simp only[nm]
  refine rdy 5 rfl fun K H=>?_
  refine zan (by rfl) ?_
  refine zar _ _ _ rfl (A+1+1) ((nbF (s.x2*fi s.z2)).map bval) rfl rfl _ _ (zak n.o N3) (by rw[q100,zca,zaa];rfl) (zaf ((zca _))) (zac _) ?_
  intro m4 c2 bv
  refine H.o _ _ (zby N3 bv) (fun R=>?_)
  clear H K
  try simp only[nm]
  refine dne ?_
  go_wp2_with fail
  refine bodyPost_ret (zam rfl _ (A+1+1) _ _ _ _ rfl c2 q102 (zaf (zca _))) rfl ?_
  exact⟨by rw[HF.o],zab (m.o.trans N3) bv (by have:=b.o;omega)⟩
theorem build_num(w:World):(Instr.build 23 #[]).run Tryz.prog w=.ok (.agg (zer.map bval).toArray) w:=by
 simp[Instr.build,q138]
 rfl
theorem rladpub_any(k:List UInt8)(w:World)(m:k.length=32):Calls Tryz.prog 55 #[.agg (k.map bval).toArray] w fun e p=>e=.returned (.agg ((pubB k).map bval).toArray)∧Below w.heap.size w p:=by
 obtain⟨h,l⟩:=jq2 (boxes3 w (k.map bval) (ints .u8 (List.replicate 32 0)) (nineB.map bval) 23 23 23) m
 clear m
 go_enter Tryz.func55,Tryz.ntmps55
 go_upto_region 3 with(fail)
 obtain⟨c,a,d,b⟩:=h.o
 change Code.wp _ _ _ _ (((w.alloc (.cells (k.map bval).toArray 23)).alloc (.cells (ints .u8 (List.replicate 32 0)).toArray 23)).alloc (.cells (nineB.map bval).toArray 23))
 generalize ((w.alloc (.cells (k.map bval).toArray 23)).alloc (.cells (ints .u8 (List.replicate 32 0)).toArray 23)).alloc (.cells (nineB.map bval).toArray 23)=i at*
 obtain⟨A,j⟩:=nxq w.heap.size
 have q:Hid (w.heap.size≤A):=jh (by omega)
 rw[←j]at c a d⊢
 obtain⟨c,a,d⟩:=jq3 c a d
 have b:Hid (Ext w i):=jh b
 clear j h
 obtain⟨u,r⟩:=jq2 (zaf l.o) (zaf nineB_length)
 have n:Hid ((Tryz.prog.info? 23).map (·.size)=some ((pubB k).map bval).length):=jh (zaf (ladB_length _ _))
 have v:Hid (((pubB k).map bval).length=(ints .u8 (List.replicate 32 0)).length):=jh (by rw[q100,zaa];exact ladB_length _ _)
 have g:=jh (rladder_any k nineB i l.o nineB_length)
 generalize nineB.map bval=y at*
 go_wp2_with (first|(refine slb A c.o q102 u.o ?_)|(refine slb (A+1+1) d.o q102 r.o ?_))
 refine g.o.mono ?_
 rintro e B ⟨rfl,f⟩
 have s:Hid (ladB k nineB=pubB k):=jh rfl
 rw[s.o]
 have a:=xxb a f
 have b:=xxt b f
 clear f g
 go_wp2_with (refine ssb (A+1) ((pubB k).map bval) a.o v.o n.o (zac _) ?_;intro z t x)
 refine bodyPost_ret (zam rfl _ (A+1) _ _ _ _ rfl t q102 n.o) rfl ?_
 exact⟨rfl,zab b.o x (by have:=q.o;omega)⟩
theorem rshared_any(k u:List UInt8)(w:World)(N:k.length=32)(F:u.length=32):Calls Tryz.prog 96 #[.agg (k.map bval).toArray,.agg (u.map bval).toArray] w fun e O=>e=.returned (.tuple #[.agg ((ladB k u).map bval).toArray,.int .i64 (shErr k u)])∧Below w.heap.size w O:=by
 obtain⟨G,L,E⟩:=jq3 (boxes3 w (k.map bval) (u.map bval) (ints .u8 (List.replicate 32 0)) 23 23 23) N F
 clear N F
 go_enter Tryz.func96,Tryz.ntmps96
 go_upto_region 1 with(fail)
 obtain⟨i,h,a,b⟩:=G.o
 change Code.wp _ _ _ _ (((w.alloc (.cells (k.map bval).toArray 23)).alloc (.cells (u.map bval).toArray 23)).alloc (.cells (ints .u8 (List.replicate 32 0)).toArray 23))
 generalize ((w.alloc (.cells (k.map bval).toArray 23)).alloc (.cells (u.map bval).toArray 23)).alloc (.cells (ints .u8 (List.replicate 32 0)).toArray 23)=K at*
 obtain⟨A,J⟩:=nxq w.heap.size
 have m:Hid (w.heap.size≤A):=jh (by omega)
 rw[←J]at i h a⊢
 obtain⟨i,h,a⟩:=jq3 i h a
 have b:Hid (Ext w K):=jh b
 clear J G
 obtain⟨P,Q⟩:=jq2 (zaf L.o) (zaf E.o)
 have g:Hid ((ladB k u).length=32):=jh (ladB_length _ _)
 have q:=jh (rladder_any k u K L.o E.o)
 obtain⟨z,l⟩:=nxq (ladB k u)
 have f:Hid (shErr k u=if z=zer then 21 else 0):=jh (by rw[l];rfl)
 rw[←l]at q g
 have M:=jh l
 clear l
 have c:=jh (zaf g.o)
 have r:Hid ((z.map bval).length=(ints .u8 (List.replicate 32 0)).length):=jh (by rw[q100,zaa,g.o];rfl)
 go_wp2_with (first|(refine slb A i.o q102 P.o ?_)|(refine slb (A+1) h.o q102 Q.o ?_))
 refine q.o.mono ?_
 rintro e j ⟨rfl,n⟩
 have a:=xxb a n
 have b:=xxt b n
 clear n q i h
 obtain⟨I,v,s⟩:=jq3 (Blk.made j (ints .u8 (List.replicate 32 0)) 23) (Ext.alloc j (.cells (ints .u8 (List.replicate 32 0)).toArray 23)) a.o.lt
 have a:=xxb a v.o
 have b:=xxt b v.o
 go_upto_region 2 with(refine ssb j.heap.size (z.map bval) I.o r.o c.o (zac _) ?_;intro S H B)
 have a:=jh (a.o.grown B (by have:=s.o;simp;omega))
 have b:=jh (zab b.o B (by have:=s.o;have:=m.o;omega))
 have C:=jh H
 generalize j.heap.size=D at*
 clear H B I v s
 have T:=build_num
 by_cases d:z=zer
 ·have f:Hid (shErr k u=21):=jh (by rw[f.o,if_pos d])
  have x:=jh (decide_eq_true d)
  clear d
  go_wp2_with (first|(refine zdv (by rfl) _ _ _ _ _ _ 32 _ z zer true rfl (Or.inl ⟨rfl,x.o⟩) q102 q113 zdq zcd zdn rfl rfl g.o zer_length ?_)|(refine slb D C.o q102 c.o ?_)|(refine ssb (A+1+1) (z.map bval) a.o r.o c.o (zac _) ?_;intro R y t))
  refine bodyPost_ret (zau (p:=4) (u:=5) (by rfl) _ (A+1+1) _ _ _ (by rfl) y q102 rfl c.o) rfl ⟨by rw[f.o,←M.o];rfl,zab b.o t (by have:=m.o;omega)⟩
 have f:Hid (shErr k u=0):=jh (by rw[f.o,if_neg d])
 have x:=jh (decide_eq_false d)
 clear d
 go_wp2_with (first|(refine zdv (by rfl) _ _ _ _ _ _ 32 _ z zer false rfl (Or.inl ⟨rfl,x.o⟩) q102 q113 zdq zcd zdn rfl rfl g.o zer_length ?_)|(refine slb D C.o q102 c.o ?_)|(refine ssb (A+1+1) (z.map bval) a.o r.o c.o (zac _) ?_;intro R y t))
 refine bodyPost_ret (zau (p:=4) (u:=5) (by rfl) _ (A+1+1) _ _ _ (by rfl) y q102 rfl c.o) rfl ⟨by rw[f.o,←M.o];rfl,zab b.o t (by have:=m.o;omega)⟩
theorem one_u8:(Tryz.prog.info? 5).map (·.size)=some 1:=by kernel_rfl
theorem hKey_long {k:List UInt8}(h:64<k.length):hKey k=sha256 k:=by
 unfold hKey
 rw[if_pos h]
def xTo(l:List UInt8)(c:UInt8)(i:Nat):List UInt8:=(l.take i).map (·^^^c)++l.drop i
theorem xTo_length(l:List UInt8)(c:UInt8)(i:Nat):(xTo l c i).length=l.length:=by
 unfold xTo
 rw[q105,q100,q107,q120]
 omega
theorem xTo_getD(l:List UInt8)(c:UInt8)(i:Nat)(h:i<l.length):(xTo l c i).getD i 0=l.getD i 0:=by
 unfold xTo
 have e:((l.take i).map (·^^^c)).length=i:=by rw[q100,q107];omega
 simp only[List.getD]
 rw[List.getElem?_append_right (by omega),e,Nat.sub_self,List.getElem?_drop,q149]
theorem xTo_set(l:List UInt8)(c:UInt8)(i:Nat)(h:i<l.length):(xTo l c i).set i (l.getD i 0^^^c)=xTo l c (i+1):=by
 unfold xTo
 have e:((l.take i).map (·^^^c)).length=i:=by rw[q100,q107];omega
 have a:l.getD i 0=l[i]:=by simp[List.getD,h]
 rw[q161 _ _ (by omega),e,Nat.sub_self,q175 h,q150,a,q143 h,q110,q109]
 rfl
theorem xTo_zero(l:List UInt8)(c:UInt8):xTo l c 0=l:=by simp[xTo]
theorem xTo_full {l:List UInt8}(c:UInt8) {n:Nat}(h:l.length=n):xTo l c n=l.map (·^^^c):=by
 unfold xTo
 rw[q108 (by omega),List.drop_of_length_le (by omega),q129]
theorem rMac_any(kv bv:Value)(k m:List UInt8)(w:World)(hk:Row1 w kv (k.map bval))(hm:Row1 w bv (m.map bval))(K:k.length≤1099511627776)(bm:m.length≤1099511627712)(hG:GlobK w):
  Calls Tryz.prog 172 #[kv,bv] w fun e w'=>e=.returned (.agg ((hmac k m).map bval).toArray)∧Below w.heap.size w w':=by
 obtain⟨HK,HM,HG,bn,a9⟩:=jq5 hk hm hG K bm
 obtain⟨a,cf,rfl,r1,r2,r3,r4⟩:=id hk
 rw[q100]at r1 HK⊢
 unfold maxLen at r2
 obtain⟨a2,C⟩:=jq2 (Blk.made w (ints .u8 (List.replicate 32 0)) 23) (Ext.alloc w (.cells (ints .u8 (List.replicate 32 0)).toArray 23))
 clear hk hm hG K bm r3 r4
 go_enter Tryz.func172,Tryz.ntmps172
 go_upto_if 12 with(fail)
 change Code.wp _ _ _ _ (w.alloc (.cells (ints .u8 (List.replicate 32 0)).toArray 23))
 generalize cc:w.alloc (.cells (ints .u8 (List.replicate 32 0)).toArray 23)=w1 at*
 clear cc
 go_cut [0,5]from 10 to 15 (fun v u5 wc=>∃(a':Option Addr) (n Y:Nat),v=.slice a' n Y∧n=(hKey k).length∧Row1 wc (.slice a' n Y) ((hKey k).map bval)∧Blk wc w.heap.size (ints .u8 (List.replicate 32 0)) 23∧Ext w wc)
 case first=>
  by_cases c6:64<k.length
  ·have c8:(64:Int)<(k.length:Int):=by omega
   have a1:=hKey_long c6
   go_wp2_with fail
   refine(zdp _ k _ (HK.o.below C.o) bn.o (HG.o.ext C.o)).mono ?_
   rintro e f ⟨rfl,c⟩
   have a0:=xxt C c
   have g:=jh (a2.o.same (c.block _ a2.o.lt))
   clear c a2 C
   obtain⟨b7,b⟩:=jq2 a1 (zbc k)
   clear a1
   generalize sha256 k=o at*
   obtain⟨HZ,u⟩:=jq2 (Blk.made f (ints .u8 (List.replicate 32 0)) 23) (a0.o.trans (Ext.alloc f (.cells (ints .u8 (List.replicate 32 0)).toArray 23)))
   have bu:=jh (g.o.same ((Ext.alloc f (.cells (ints .u8 (List.replicate 32 0)).toArray 23)).block _ g.o.lt))
   have x:Hid ((Tryz.prog.info? 23).map (·.size)=some (o.map bval).length):=jh (zaf b.o)
   have F:Hid ((o.map bval).length=(ints .u8 (List.replicate 32 0)).length):=jh (by rw[q100,b.o,zaa,q112])
   obtain⟨a4,ca⟩:=jq2 a0.o.size g.o.lt
   go_wp2_with (refine ssb f.heap.size (o.map bval) HZ.o F.o x.o (zac _) ?_;intro w7 a6 A)
   go_meet
   exact⟨_,_,_,rfl,by rw[b7.o,b.o],by rw[b7.o];exact zbz (n:=32) a6 (by rw[q100,b.o]) (by unfold maxLen;omega),bu.o.grown A (fun e=>by have h:=Option.some.inj e;have:=ca.o;omega),zab u.o A a4.o⟩
  have c8:¬(64:Int)<(k.length:Int):=by omega
  have a1:=hKey_small (k:=k) (by omega)
  go_wp2_with fail
  go_meet
  exact⟨_,_,_,rfl,by rw[a1],by rw[a1];exact HK.o.below C.o,a2.o,C.o⟩
 case rest=>
  obtain⟨a',n,Y,rfl,hn,ba,t,hE⟩:=hcut
  clear HK a2 C r1 r2 bn
  obtain⟨S,L,D,E,J⟩:=info_parts Tryz.info5
  have K:=hKey_length k
  have a8:=hPad_length K
  have ae:=splice_zeros 64 (hKey k)
  have hmac:hmac k m=sha256 (xTo (hPad (hKey k)) 0x5c 64++sha256 (xTo (hPad (hKey k)) 0x36 64++m)):=by
   rw[xTo_full 0x36 a8,xTo_full 0x5c a8]
   rfl
  have bk:(hKey k)++List.replicate (64 - (hKey k).length) 0=hPad (hKey k):=rfl
  rw[bk]at ae
  have bs:=jh hmac
  clear hmac bk
  generalize hPad (hKey k)=p at*
  generalize hKey k=q at*
  subst hn
  obtain⟨ab,al,bg,HR,U,i⟩:=jq6 ae a8 K ba t hE
  obtain⟨HS,ao⟩:=jq2 hE.size t.lt
  -- the two blocks
  have bq:=run_make_zeros wc 24 5 q104 S L D E J 64 (by omega)
  have an:=run_make_zeros (wc.alloc (.cells ((zB 64).map bval).toArray 5)) 24 5 q104 S L D E J 64 (by omega)
  rw[show ((64:Nat):Int)=64 from rfl]at bq an
  have g:=jh (boxes2 wc ((zB 64).map bval) ((zB 64).map bval) 5 5)
  clear ae a8 K ba t hE L D E J
  go_upto_region 6 with(fail)
  change Code.wp _ _ _ _ ((wc.alloc (.cells ((zB 64).map bval).toArray 5)).alloc (.cells ((zB 64).map bval).toArray 5))
  clear bq an
  have a4:Hid ((wc.alloc (.cells ((zB 64).map bval).toArray 5)).heap.size=wc.heap.size+1):=jh (by simp)
  generalize (wc.alloc (.cells ((zB 64).map bval).toArray 5)).alloc (.cells ((zB 64).map bval).toArray 5)=f at*
  obtain⟨b1,b2,l⟩:=g.o
  have c4:=HR.o.below l
  have b9:=jh (row_src HR.o q (by rw[q133]) (q101 _) l)
  have HN:Hid ((q.map bval).length=Nat.min q.length 64):=jh (by rw[q100];exact(q140 bg.o).symm)
  have HF:Hid (0+(q.map bval).length≤((zB 64).map bval).length):=jh (by rw[q100,q100,zB_length];have:=bg.o;omega)
  obtain⟨I,M⟩:=nxq wc.heap.size
  have ay:=a4.o
  rw[←M]at b1 b2 l ay
  rw[←M]
  obtain⟨H1,H2⟩:=jq2 (b1:f.heap[I]? =some (.cells ((zB 64).map bval).toArray 5 (0,0))) b2
  have a0:Hid (Ext w f):=jh (i.o.trans (by rw[M]at l;exact l))
  have ax:Hid (Blk f w.heap.size (ints .u8 (List.replicate 32 0)) 23):=jh (U.o.same (l.block _ (by have:=ao.o;omega)))
  have d:Hid (w.heap.size<I):=jh (by have:=ao.o;omega)
  have az:Hid (Ext wc f):=jh (by rw[M]at l;exact l)
  have cb:=jh M
  clear b1 b2 l c4 g a4 ay i U M
  have H1:Hid (Blk f I ((zB 64).map bval) 5):=jh H1.o
  go_upto_region 7 with(refine wpList_copy_blk rfl (.tmp 18) (.tmp 19) 24 24 rfl 5 q104 one_u8 (some ⟨I,0,none⟩) a' 64 64 q.length Y rfl rfl I 0 ((zB 64).map bval) 5 H1.o (q.map bval) HN.o (fun h=>⟨rfl,b9.o h⟩) HF.o (zac _) ?_;intro w3 ak Z)
  rw[ab.o]at ak
  have u:Hid (Ext w w3):=jh (zab a0.o Z (by have:=d.o;omega))
  have bh:=jh (H2.o.grown Z (fun e=>by have h:=Option.some.inj e;omega))
  have O:=jh (ax.o.grown Z (fun e=>by have h:=Option.some.inj e;have:=d.o;omega))
  have b4:=jh (row_src HR.o q (by rw[q133]) (q101 _) (zab az.o Z (by rw[cb.o];exact q101 _)))
  have ap:Hid (Blk w3 I (p.map bval) 5):=jh ak
  clear ak Z H1 H2 a0 ax b9 az HR
  simp only[nm]
  go_upto_region 8 with(refine wpList_copy_blk rfl (.tmp 21) (.tmp 22) 24 24 rfl 5 q104 one_u8 (some ⟨I+1,0,none⟩) a' 64 64 q.length Y rfl rfl (I+1) 0 ((zB 64).map bval) 5 bh.o (q.map bval) HN.o (fun h=>⟨rfl,b4.o h⟩) HF.o (zac _) ?_;intro s ad a7)
  simp only[nm]
  rw[ab.o]at ad
  have G:Hid (Ext w s):=jh (zab u.o a7 (by have:=d.o;omega))
  have be:=jh (ap.o.grown a7 (fun e=>by have h:=Option.some.inj e;omega))
  have aq:Hid (Blk s (I+1) (p.map bval) 5):=jh ad
  have B:=jh (O.o.grown a7 (fun e=>by have h:=Option.some.inj e;have:=d.o;omega))
  clear ad a7 ap bh u O b4 HF HN ab
  go_wp2_with fail
  go_loopw [8] (fun iv wr=>∃(j:Nat),j≤64∧iv=.int .i64 (j:Int)∧Blk wr I ((xTo p 0x36 j).map bval) 5∧Blk wr (I+1) ((xTo p 0x5c j).map bval) 5∧Blk wr w.heap.size (ints .u8 (List.replicate 32 0)) 23∧Ext w wr) (fun iv _=>64 - (intOf iv).toNat)
  case atStart=>exact⟨0,by omega,rfl,by rw[xTo_zero];exact be.o,by rw[xTo_zero];exact aq.o,B.o,G.o⟩
  case round=>
   clear be aq B G
   obtain⟨j,hj,rfl,z,P,t,H⟩:=hrel
   have k0:(0:Int)≤(j:Int):=Int.natCast_nonneg _
   by_cases bx:j<64
   ·have k1:(j:Int)<64:=by omega
    have r:j<p.length:=by rw[al.o];exact bx
    have c1:=z.cell j
    rw[zbg (by rw[xTo_length];exact r),xTo_getD p _ j r]at c1
    have c2:=P.cell j
    rw[zbg (by rw[xTo_length];exact r),xTo_getD p _ j r]at c2
    have f1:=z.free j
    have f2:=P.free j
    have x1:=xor_u8 (p.getD j 0) 0x36
    have x2:=xor_u8 (p.getD j 0) 0x5c
    rw[show (((0x36:UInt8).toNat:Nat):Int)=54 from rfl]at x1
    rw[show (((0x5c:UInt8).toNat:Nat):Int)=92 from rfl]at x2
    obtain⟨c0,c3,B1,W,BR,i⟩:=jq6 (xTo_set p 0x36 j r) (xTo_set p 0x5c j r) z P t H
    generalize bt:p.getD j 0^^^0x36=Q at*
    generalize c5:p.getD j 0^^^0x5c=y2 at*
    clear z P t H bt c5
    obtain⟨y,hy⟩:=nxq (p.getD j 0)
    rw[←hy]at x1 x2 c1 c2
    have HY:=jh hy
    clear hy
    go_upto_region 12 with(fail)
    change Code.wp _ _ _ _ (wr.setCell ⟨I,j,none⟩ (bval Q))
    have B1:Hid (Blk (wr.setCell ⟨I,j,none⟩ (bval Q)) I ((xTo p 0x36 (j+1)).map bval) 5):=jh (by rw[←c0.o,q141];exact B1.o.set j _)
    have W:=jh (W.o.far (a:=⟨I,j,none⟩) (by simp) (bval Q))
    have BR:=jh (BR.o.far (a:=⟨I,j,none⟩) (by have:=d.o;simp;omega) (bval Q))
    have i:Hid (Ext w (wr.setCell ⟨I,j,none⟩ (bval Q))):=jh (Below.setCell i.o (by have:=d.o;simp;omega) _)
    generalize wr.setCell ⟨I,j,none⟩ (bval Q)=ws at*
    have c2:=W.o.cell j
    rw[zbg (by rw[xTo_length];exact r),xTo_getD p _ j r,←HY.o]at c2
    have f2:=W.o.free j
    go_wp2_with fail
    go_roundw
    case rel=>
     refine⟨j+1,by omega,by go_num,B1.o.far (by simp) _,?_,BR.o.far (by have:=d.o;simp;omega) _,Below.setCell i.o (by have:=d.o;simp;omega) _⟩
     rw[←c3.o,q141]
     exact W.o.set j _
    case measure=>simp[intOf];omega
   have bw:j=64:=by omega
   subst bw
   have X:((xTo p 0x36 64).map bval).length=64:=by rw[q100,xTo_length];exact al.o
   have R:((xTo p 0x5c 64).map bval).length=64:=by rw[q100,xTo_length];exact al.o
   have ah:=jh (own_blk (base:=I) z (q101 _) X (by unfold maxLen;omega))
   obtain⟨g,U,i,HS⟩:=jq4 P t H H.size
   have bo:Hid (I≤wr.heap.size):=jh (Nat.le_of_lt z.lt)
   obtain⟨X,R,aw⟩:=jq3 X R (HM.o.below H)
   have bf:Hid ((m.map bval).length=m.length):=jh (q100 _)
   obtain⟨S,L,D,E,J⟩:=info_parts Tryz.info5
   obtain⟨b8,bj,bi,b0⟩:=jq4 L D E J
   clear z P t H L D E J
   go_wp2_with (at_builtin;refine zad rfl _ _ 24 rfl I 5 S (.int .u8 0) 1 q104 b8.o bj.o bi.o b0.o rfl _ 64 _ rfl ah.o rfl aw.o (zac _) (by have:=a9.o;rw[bf.o];unfold maxLen;omega) (by have:=a9.o;rw[bf.o];omega) bo.o ?_;intro v3 w3 af N)
   have N:wr.grownBy w3 (some I):=N
   have u:=jh (zbf i.o ah.o (by have:=d.o;omega) N)
   have ag:=jh (g.o.grown N (fun h=>by have:=Option.some.inj h;omega))
   have O:=jh (U.o.grown N (fun h=>by have:=Option.some.inj h;have:=d.o;omega))
   rw[←q110]at af
   refine(zdp _ (xTo p 0x36 64++m) _ (Row1.of_own af) (by rw[q105];have:=X.o;rw[q100]at this;have:=a9.o;omega) (HG.o.ext u.o)).mono ?_
   rintro e s ⟨rfl,c⟩
   have G:=xxt u c
   have a3:=jh (ag.o.same (c.block _ ag.o.lt))
   have B:=jh (O.o.same (c.block _ O.o.lt))
   have cd:Hid (I≤s.heap.size):=jh (by have:=a3.o.lt;omega)
   clear c af N u ag O g U i ah X aw HS
   have b:=jh (zbc (xTo p 0x36 64++m))
   generalize sha256 (xTo p 0x36 64++m)=o at*
   have HZ:=jh (Blk.made s (ints .u8 (List.replicate 32 0)) 23)
   have HA:=Ext.alloc s (.cells (ints .u8 (List.replicate 32 0)).toArray 23)
   have bl:=xxt G HA
   have au:=jh (a3.o.same (HA.block _ a3.o.lt))
   have bc:=jh (B.o.same (HA.block _ B.o.lt))
   have x:Hid ((Tryz.prog.info? 23).map (·.size)=some (o.map bval).length):=jh (zaf b.o)
   have F:Hid ((o.map bval).length=(ints .u8 (List.replicate 32 0)).length):=jh (by rw[q100,b.o,zaa,q112])
   obtain⟨bb,av,bp⟩:=jq3 G.o.size B.o.lt a3.o.lt
   go_upto_region 14 with(refine ssb s.heap.size (o.map bval) HZ.o F.o x.o (zac _) ?_;intro w7 a6 A)
   have bd:=jh (zab bl.o A bb.o)
   have am:=jh (au.o.grown A (fun h=>by have:=Option.some.inj h;have:=bp.o;omega))
   have b5:=jh (bc.o.grown A (fun h=>by have:=Option.some.inj h;have:=av.o;omega))
   have ar:=jh (zbz (n:=32) a6 (by rw[q100,b.o]) (by unfold maxLen;omega))
   have V:=jh (own_blk (base:=I+1) am.o (q101 _) R.o (by unfold maxLen;omega))
   have b6:Hid (I+1≤w7.heap.size):=jh (by have:=am.o.lt;omega)
   have ac:Hid ((o.map bval).length=32):=jh (by rw[q100,b.o])
   generalize s.heap.size=g9 at*
   clear a6 A HZ HA a3 au B bc G bl bb av bp cd bo F
   go_wp2_with (at_builtin;refine zad rfl _ _ 24 rfl (I+1) 5 S (.int .u8 0) 1 q104 b8.o bj.o bi.o b0.o rfl _ 64 _ rfl V.o rfl ar.o (zac _) (by rw[ac.o];unfold maxLen;omega) (by rw[ac.o];omega) b6.o ?_;intro v8 w8 ai T)
   have T:w7.grownBy w8 (some (I+1)):=T
   have aa:=jh (zbf bd.o V.o (by have:=d.o;omega) T)
   have aj:=jh (b5.o.grown T (fun h=>by have:=Option.some.inj h;have:=d.o;omega))
   rw[←q110]at ai
   refine(zdp _ (xTo p 0x5c 64++o) _ (Row1.of_own ai) (by rw[q105,b.o];have:=R.o;rw[q100]at this;omega) (HG.o.ext aa.o)).mono ?_
   rintro e w9 ⟨rfl,c⟩
   have c7:=xxt aa c
   have c9:=jh (aj.o.same (c.block _ aj.o.lt))
   rw[←bs.o]
   clear c ai T aa aj bd b5 am ar V b6 ac x b R
   obtain⟨o2,a5⟩:=nxq (hmac k m)
   rw[←a5]
   have b:Hid (o2.length=32):=jh (by rw[a5];exact zbx k m)
   have V:=jh a5
   clear a5
   have x:Hid ((Tryz.prog.info? 23).map (·.size)=some (o2.map bval).length):=jh (zaf b.o)
   have F:Hid ((o2.map bval).length=(ints .u8 (List.replicate 32 0)).length):=jh (by rw[q100,b.o,zaa,q112])
   go_wp2_with (refine ssb w.heap.size (o2.map bval) c9.o F.o x.o (zac _) ?_;intro ce bz br)
   refine bodyPost_ret (zam rfl _ w.heap.size _ _ _ _ rfl bz q102 x.o) rfl ?_
   exact⟨by rw[V.o],zab c7.o br (q101 _)⟩
theorem usome:(Tryz.prog.underlying 3).isSome=true:=by kernel_rfl
theorem hkT_le(k a:List UInt8)(j:Nat):(hkT k a j).length≤32:=by
 cases j with
 |zero=>simp[hkT]
 |succ j=>rw[hkT_length];omega
end Go.Proofs.YtgnfdonbholcdaaGreatDoor


