/- Lemmas. -/
import Derived.Test.YtgnfdonbholcdaaDoorQz08
import Derived.Test.YtgnfdonbholcdaaDoorQz10
namespace Go.Proofs.YtgnfdonbholcdaaDoor
set_option linter.unusedVariables false
set_option maxRecDepth 100000
set_option maxHeartbeats 32000000
set_option linter.unusedSimpArgs false
open Go.RowKit
theorem rmay_f(n:List UInt8)(w:World)(u:n.length=32)(k:GlobD w)(r:Glob w):Calls Tryd.prog 36 #[.agg (n.map bval).toArray] w fun e H=>e=.returned (.bool (mayB n))∧Below w.heap.size w H:=by
 obtain⟨v,D,C,q⟩:=jq4 u k r (boxes_one w (n.map bval) 23)
 clear u k r
 go_enter Tryd.func36,Tryd.ntmps36
 go_upto_region 1 with(fail)
 obtain⟨d,a⟩:=q.o
 change Code.wp _ _ _ _ (w.alloc (.cells (n.map bval).toArray 23))
 generalize w.alloc (.cells (n.map bval).toArray 23)=j at*
 obtain⟨A,h⟩:=nxq w.heap.size
 rw[←h]at d⊢
 have t:=jh d
 have a:Hid (Ext w j):=jh a
 clear h q d
 go_wp2_with (refine slb A t.o Tryd.underlying23 (zag v.o) ?_)
 refine(rread_f n j v.o (D.o.ext a.o) (C.o.ext a.o)).mono ?_
 rintro e c ⟨b,rfl,y,i,I,x⟩
 have a:=xxt a x
 obtain⟨l,E⟩:=jq2 y i
 obtain⟨J,f⟩:=nxq (mayB n)
 rw[←f]
 have B:=jh f
 clear y i I x t f
 obtain⟨m,p⟩:=jq2 (Blk.made c (ints .i64 (List.replicate 64 0)) 89) (Ext.alloc c (.cells (ints .i64 (List.replicate 64 0)).toArray 89))
 have F:Hid (b.length=(ints .i64 (List.replicate 64 0)).length):=jh (by rw[l.o,zaa];rfl)
 have G:Hid ((Tryd.prog.info? 89).map (·.size)=some b.length):=jh (by rw[l.o];kernel_rfl)
 go_upto_region 2 with(refine ssb c.heap.size b m.o F.o G.o E.o ?_;intro wc z s)
 have g:=jh (zab p.o s (q101 _))
 have a:=xxt a g.o
 clear z s m p g
 go_wp2_with fail
 go_ret
 exact⟨by rw[B.o];rfl,a.o⟩
def GS(w:World):Prop:=GlobK5 w∧GlobO w∧GlobD w∧GlobX w∧GlobY w
def GV(w:World):Prop:=GS w∧Glob w
theorem GS.ext {w b:World}(h:GS w)(a:Ext w b):GS b:=⟨h.1.ext a,h.2.1.ext a,h.2.2.1.ext a,h.2.2.2.1.ext a,h.2.2.2.2.ext a⟩
theorem GV.ext {w a:World}(h:GV w)(b:Ext w a):GV a:=⟨h.1.ext b,h.2.ext b⟩
theorem rSignCert_any(root key:List UInt8)(a:Int)(w:World)(p:root.length=32)(L:key.length=32)(hG:GV w):
  Calls Tryd.prog 21 #[.agg (root.map bval).toArray,.int .i64 a,.agg (key.map bval).toArray] w fun e u=>e=.returned (.tuple #[.agg (certC (sgnI a key) (sgnK a key) (sgnG root a key)).toArray,.int .i64 (sgnE a key)])∧Below w.heap.size w u:=by
 obtain⟨a6,i,a4,z,N,HB⟩:=jq6 p L (zag p) (zag L) hG (boxes3 w (root.map bval) (key.map bval) (certC 0 z32 z64) 23 23 28)
 obtain⟨aa,v⟩:=jq2 (zbz (id:=0) zbk zcq) (cert_size (id:=0) zbk zcq)
 clear p L hG
 go_enter Tryd.func21,Tryd.ntmps21
 go_upto_region 1 with(fail)
 obtain⟨m,j,y,f⟩:=HB.o
 change Code.wp _ _ _ _ (((w.alloc (.cells (root.map bval).toArray 23)).alloc (.cells (key.map bval).toArray 23)).alloc (.cells (certC 0 z32 z64).toArray 28))
 generalize ((w.alloc (.cells (root.map bval).toArray 23)).alloc (.cells (key.map bval).toArray 23)).alloc (.cells (certC 0 z32 z64).toArray 28)=E at*
 have f:Hid (Ext w E):=jh f
 obtain⟨C,W⟩:=nxq (w.heap.size+1+1)
 have I:Hid (w.heap.size≤C):=jh (by omega)
 rw[←W]at y⊢
 obtain⟨B,Z⟩:=nxq (w.heap.size+1)
 rw[←Z]at j⊢
 obtain⟨A,R⟩:=nxq w.heap.size
 have J:Hid (A<B∧B<C):=jh (by omega)
 rw[←R]at m⊢
 obtain⟨m,j,n⟩:=jq3 m j y
 clear R Z W HB y
 go_wp2_with fail
 refine(rsmall_any a E).mono ?_
 rintro e u ⟨rfl,rfl⟩
 cases hsm:smallB a with
 |false=>
  have b:=jh (sgn_arg (key:=key) hsm root)
  clear hsm
  go_wp2_with (first|(refine zcu rfl _ _ rfl _ rfl _ (build_cert0 _) ?_)|(refine ssb C (certC 0 z32 z64) n.o rfl v.o (certC_one _ _ _) ?_;intro w9 O Q))
  refine bodyPost_ret (zaw rfl _ C _ _ _ rfl O Tryd.underlying28 rfl v.o) rfl ?_
  exact⟨by rw[b.o.1,b.o.2.1,b.o.2.2.1,b.o.2.2.2];rfl,zab f.o Q I.o⟩
 |true=>
  have V:=jh hsm
  clear hsm
  have D:=jh (rmay_f key E i.o (N.o.1.2.2.1.ext f.o) (N.o.2.ext f.o))
  have a5:Hid (mayB key=mayB key):=jh rfl
  obtain⟨my,G⟩:=nxq (mayB key)
  rw[←G]at D
  have U:=jh G
  clear G a5
  go_wp2_with (refine slb B j.o Tryd.underlying23 z.o ?_)
  refine D.o.mono ?_
  rintro e k ⟨rfl,P⟩
  obtain⟨m,j,n⟩:=xq3 m j n P
  have f:=xxt f P
  clear P D
  cases my with
  |false=>
   have b:=jh (sgn_key (key:=key) V.o U.o.symm root)
   go_wp2_with (first|(refine zcu rfl _ _ rfl _ rfl _ (build_cert0 _) ?_)|(refine ssb C (certC 0 z32 z64) n.o rfl v.o (certC_one _ _ _) ?_;intro w9 O Q))
   refine bodyPost_ret (zaw rfl _ C _ _ _ rfl O Tryd.underlying28 rfl v.o) rfl ?_
   exact⟨by rw[b.o.1,b.o.2.1,b.o.2.2.1,b.o.2.2.2];rfl,zab f.o Q I.o⟩
  |true=>
   have b:=jh (sgn_yes V.o U.o.symm root)
   obtain⟨g,t⟩:=nxq (edSign root (certT a key))
   have a3:Hid (certG root a key=g):=jh t.symm
   have s:Hid (g.length=64):=jh (by rw[t];exact zeg _ _)
   have a7:=jh (fun (x:Value) (wx:World) (hx:Ext k wx) (p:Row1 wx x ((certT a key).map bval))=>by
    have q:=N.o.1.ext (f.o.trans hx)
    have h:=rsign_f root (certT a key) x wx a6.o p (by rw[certT_length,i.o];decide) q.1 q.2.1 q.2.2.1 q.2.2.2.1 q.2.2.2.2
    rw[←t]at h
    exact h)
   clear t
   go_upto_region 6 with(fail)
   have X:Ext k k.drew:=Ext.drew _
   refine wp_region_held_drew (S:=fun u=>Far (C) k u) (by kernel_rfl) (zao X) (fun d=>?_)
   refine tke 0 (.int .i64 a) rfl (zba _ (.int .i64 a) (by rfl) rfl rfl) d ?_
   simp only[nm]
   refine tke 1 (.agg ((key).map bval).toArray) rfl (sld B 0 (fun w h=>zas j.o (by have:=J.o;omega) h) Tryd.underlying23 z.o) d ?_
   simp only[nm]
   refine tke 2 (.agg ((root).map bval).toArray) rfl (sld A 0 (fun w h=>zas m.o (by have:=J.o;omega) h) Tryd.underlying23 a4.o) d ?_
   simp only[nm]
   refine tke 3 (.int .i64 a) rfl (zba _ (.int .i64 a) (by rfl) rfl rfl) d ?_
   simp only[nm]
   refine tke 4 (.agg ((key).map bval).toArray) rfl (sld B 0 (fun w h=>zas j.o (by have:=J.o;omega) h) Tryd.underlying23 z.o) d ?_
   simp only[nm]
   refine rdy 5 rfl fun K c=>?_
   go_simp
   refine(rcertText_any a key k.drew i.o).mono ?_
   rintro e F ⟨x1,rfl,l,b1⟩
   have l:Row1 F x1 ((certT a key).map bval):=l
   obtain⟨a1,c1,a0,_⟩:=id l
   rw[show ((certT a key).map bval).length=44 from by rw[q100,certT_length,i.o]]at a0
   subst a0
   have H:Ext k F:=X.trans b1
   refine c.o _ _ (zao H) (fun d=>?_)
   clear c K
   try simp only[nm]
   refine rdy 6 rfl fun K c=>?_
   go_simp
   refine(a7.o _ F H l).mono ?_
   rintro e m2 ⟨rfl,Y⟩
   have l:=l.below Y
   have r:Ext k m2:=H.trans Y
   refine c.o _ _ (zao r) (fun d=>?_)
   clear c K
   try simp only[nm]
   refine tke 7 (.agg (certC a key g).toArray) rfl (yi_build _ _ _ _ (build_cert a i.o s.o) (by rfl) rfl (by simp[Act.eval])) d ?_
   simp only[nm]
   refine rdy 8 rfl fun K c=>?_
   refine zan (by rfl) ?_
   refine zaq _ _ _ rfl C (certC a key g) rfl rfl _ _ (zal n.o r) (by rw[zbz i.o s.o,zbz zbk zcq]) (cert_size i.o s.o) (certC_one _ _ _) ?_
   intro m3 a8 M
   refine c.o _ _ (zbt r M) (fun d=>?_)
   clear c K
   try simp only[nm]
   refine rdy 9 rfl fun K c=>?_
   go_simp
   refine c.o _ _ (zbt r M) (fun d=>?_)
   clear c K
   try simp only[nm]
   refine dne ?_
   have a2:=a8
   have T:=zab (f.o.trans r) M I.o
   generalize m3=a9 at a2 T⊢
   go_wp2_with fail
   refine bodyPost_ret (zaw rfl _ C _ _ _ rfl a2 Tryd.underlying28 rfl (cert_size i.o s.o)) rfl ?_
   exact⟨by rw[b.o.1,b.o.2.1,b.o.2.2.1,b.o.2.2.2,a3.o];rfl,T⟩
def fA(l:List UInt8)(k:Nat):List UInt8:=l++List.replicate k 0
theorem fA_succ(l:List UInt8)(k:Nat):fA l (k+1)=fA l k++[0]:=by
 unfold fA
 rw[List.replicate_succ',q107]
theorem fA_length(l:List UInt8)(k:Nat):(fA l k).length=l.length+k:=by simp[fA]
theorem fA_full(l:List UInt8):fA l ((16 - l.length%16)%16)=l++z16 l.length:=rfl
theorem bytesN_succ:∀(k n:Nat),bytesN (k+1) n=bytesN k n++[UInt8.ofNat (n / 256^k%256)]:=fun k n=>by
 have h:=bytesN_append k 1 n
 rw[h]
 congr 1
theorem rFilled_any(v:Value)(l:List UInt8)(base:Nat)(w:World)(z:w.ownsRow base 5 1 v l.length (l.map bval))(E:base≤w.heap.size)(S:l.length≤1099511627776):
  Calls Tryd.prog 77 #[v] w fun e C=>∃x,e=.returned x∧C.ownsRow base 5 1 x (l++z16 l.length).length ((l++z16 l.length).map bval)∧Below base w C:=by
 obtain⟨K,r,p,t,A⟩:=info_parts Tryd.info5
 obtain⟨L,J,H,M⟩:=jq4 r p t A
 have q:Hid (w.ownsRow base 5 1 v (fA l 0).length ((fA l 0).map bval)):=jh (by simpa[fA]using z)
 obtain⟨h,G⟩:=jq2 E (fA_full l)
 clear z E r p t A
 go_enter Tryd.func77,Tryd.ntmps77
 go_wp2_with fail
 go_loopw [0] (fun x wr=>∃(k:Nat),k≤(16 - l.length%16)%16∧wr.ownsRow base 5 1 x (fA l k).length ((fA l k).map bval)∧Below base w wr) (fun x _=>l.length+16 - lenOf x)
 case atStart=>exact⟨0,by omega,q.o,Below.refl _ _⟩
 case round=>
  clear q
  obtain⟨k,u,f,D⟩:=hrel
  obtain⟨O,N,rfl,m,B,_⟩:=id (Row1.of_own f)
  have b:=fA_length l k
  obtain⟨c,g⟩:=jq2 f D
  rw[q100,b]at m c⊢
  unfold maxLen at B
  clear f D
  by_cases i:k=(16 - l.length%16)%16
  ·have I:(((l.length+k:Nat):Int)%16 !=0)=false:=by simp;omega
   have a:Hid (fA l k=l++z16 l.length):=jh (by rw[i];exact G.o)
   have d:Hid (l.length+k=(l++z16 l.length).length):=jh (by rw[←a.o,b])
   clear b i m B u
   generalize l.length+k=n at*
   go_wp2_with fail
   go_ret
   exact⟨_,rfl,zcn c.o d.o (by rw[a.o]),g.o⟩
  have I:(((l.length+k:Nat):Int)%16 !=0)=true:=by simp;omega
  have j:=jh g.o.size
  have a:Hid (k<(16 - l.length%16)%16):=jh (by omega)
  generalize s:l.length+k=n at*
  have d:=jh s
  have Q:n≤1099511627900:=by omega
  clear s b i u
  go_wp2_with (at_builtin;refine zad rfl _ _ 24 rfl base 5 K (.int .u8 0) 1 Tryd.underlying24 L.o J.o H.o M.o rfl _ n _ rfl (c.o.alloc _) rfl (Row1.made _ #[.int .u8 0] _ _ 1 ([0].map bval) rfl rfl rfl (by unfold maxLen;omega)) (zac _) (by unfold maxLen;simp;omega) (by simp;omega) (by simp;have:=j.o;have:=h.o;omega) ?_;intro P R y F)
  go_roundw
  case rel=>
   refine⟨k+1,a.o,zcn y (by rw[fA_length,←d.o];simp;omega) (by rw[fA_succ,q104]),below_own (g.o.trans (Below.mono (Ext.alloc wr (.cells #[.int .u8 0] 5)) (by have:=j.o;have:=h.o;omega))) (c.o.alloc _) F (by simp;have:=j.o;have:=h.o;omega)⟩
  case measure=>
   rw[ownRow_len y]
   have:=d.o
   have:=a.o
   simp[lenOf]
   omega
theorem rLength_any(n:Nat)(w:World)(R:n≤1099511627776):
  Calls Tryd.prog 78 #[.int .i64 (n:Int)] w fun e v=>∃x,e=.returned x∧v.ownsRow w.heap.size 5 1 x 8 ((bytesN 8 n).map bval)∧Below w.heap.size w v:=by
 obtain⟨E,l,h,p,t⟩:=info_parts Tryd.info5
 obtain⟨F,C,B,G⟩:=jq4 l h p t
 have i:Hid (w.ownsRow w.heap.size 5 1 (.slice none 0 0) 0 ((bytesN 0 n).map bval)):=jh (World.ownsRow_nil _ _ _ _)
 clear l h p t
 go_enter Tryd.func78,Tryd.ntmps78
 go_wp2_with fail
 go_loopw [3,4] (fun x d wr=>∃(k:Nat),k≤8∧d=.int .i64 (k:Int)∧wr.ownsRow w.heap.size 5 1 x k ((bytesN k n).map bval)∧Ext w wr) (fun _ d _=>8 - (intOf d).toNat)
 case atStart=>exact⟨0,by omega,rfl,i.o,Ext.refl _⟩
 case round=>
  clear i
  obtain⟨k,S,rfl,b,a⟩:=hrel
  have Q:(0:Int)≤(k:Int):=Int.natCast_nonneg _
  obtain⟨f,r,J⟩:=jq3 b a a.size
  by_cases X:k<8
  ·have P:(k:Int)<8:=by omega
   have I:=jh (bytesN_succ k n)
   obtain⟨s,m⟩:=nxq (8*k)
   have L:8*(k:Int)=(s:Int):=by omega
   have N:(s:Int)<64:=by omega
   have K:(0:Int)≤(s:Int):=by omega
   have y:(2:Int)^s=((256^k:Nat):Int):=by rw[m,Int.pow_mul];simp
   have M:(n:Int) / 2^s=((n / 256^k:Nat):Int):=by rw[y,←Int.natCast_ediv]
   have U:n / 256^k≤n:=Nat.div_le_self _ _
   have g:((UInt8.ofNat (n / 256^k%256)).toNat:Int)=((n / 256^k:Nat):Int)%256:=by rw[UInt8.toNat_ofNat'];omega
   generalize UInt8.ofNat (n / 256^k%256)=c at*
   generalize n / 256^k=q at*
   have O:=zcl (q:Int) (by omega) (by omega)
   have A:Hid (bval c=.int .u8 ((q:Int)%256)):=jh (by unfold bval;rw[g])
   clear b a m g y
   go_wp2_with (at_builtin;refine zad rfl _ _ 24 rfl w.heap.size 5 E (.int .u8 0) 1 Tryd.underlying24 F.o C.o B.o G.o rfl _ k _ rfl (f.o.alloc _) rfl (Row1.made _ #[.int .u8 ((q:Int)%256)] _ _ 1 [.int .u8 ((q:Int)%256)] rfl rfl rfl (by unfold maxLen;omega)) (by intro u j;simp at j;subst j;rfl) (by unfold maxLen;simp;omega) (by simp;omega) (by simp;have:=J.o;omega) ?_;intro T V H z)
   go_roundw
   case rel=>
    refine⟨k+1,by omega,by go_num,zcn H (by simp) (by rw[I.o,q104,q121,q122,A.o]),zay (r.o.trans (Ext.alloc wr _)) (f.o.alloc _) (q101 _) z⟩
   case measure=>simp[intOf];omega
  have D:k=8:=by omega
  subst D
  clear b a
  go_wp2_with fail
  go_ret
  exact⟨_,rfl,f.o,r.o⟩
theorem rol_any(x:W32)(n:Nat)(d:n≤32)(w:World):Calls Tryd.prog 88 #[.int .u32 (wi x),.int .u64 (n:Int)] w fun e a=>e=.returned (.int .u32 (wi (rotl x n)))∧w=a:=by
 have b:=jh (wi_rotl x n)
 have f:=wi_range x
 generalize wi x=z at*
 have c:(n:Int)≤32:=by omega
 go_enter Tryd.func88,Tryd.ntmps88
 go_wp2_with fail
 go_ret
 exact⟨congrArg (fun v=>Ending.returned (.int .u32 v)) (by rw[←b.o,IntKind.wrap_u32]),rfl⟩
section
theorem w_same {l:List W32} {i:Nat} {v:W32}(h:i<l.length):(l.set i v).getD i 0#32=v:=by simp[List.getD,h]
theorem w_far {l:List W32} {i j:Nat} {v:W32}(h:i≠j):(l.set i v).getD j 0#32=l.getD j 0#32:=by simp[List.getD,List.getElem?_set_ne h]
structure QI(s:List W32)(a b c d:Nat)(l:List W32)(A B C D:W32):Prop where
 len:l.length=16
 ea:l.getD a 0#32=A
 eb:l.getD b 0#32=B
 ec:l.getD c 0#32=C
 ed:l.getD d 0#32=D
 rest:∀i,i≠a→i≠b→i≠c→i≠d→l.getD i 0#32=s.getD i 0#32
section
variable {s l:List W32} {a b c d:Nat} {A B C D:W32}
theorem QI.set_a(h:QI s a b c d l A B C D)(k:a<16)(m:a≠b)(f:a≠c)(g:a≠d)(p:b≠c)(n:b≠d)(q:c≠d)(v:W32):QI s a b c d (l.set a v) v B C D:=
 ⟨by rw[q117];exact h.len,w_same (by rw[h.len];exact k),by rw[w_far m];exact h.eb,by rw[w_far f];exact h.ec,by rw[w_far g];exact h.ed,fun i h1 h2 e j=>by rw[w_far (Ne.symm h1)];exact h.rest i h1 h2 e j⟩
theorem QI.set_b(h:QI s a b c d l A B C D)(k:b<16)(m:a≠b)(n:a≠c)(p:a≠d)(g:b≠c)(f:b≠d)(q:c≠d)(v:W32):QI s a b c d (l.set b v) A v C D:=
 ⟨by rw[q117];exact h.len,by rw[w_far (Ne.symm m)];exact h.ea,w_same (by rw[h.len];exact k),by rw[w_far g];exact h.ec,by rw[w_far f];exact h.ed,fun i h1 h2 e j=>by rw[w_far (Ne.symm h2)];exact h.rest i h1 h2 e j⟩
theorem QI.set_c(h:QI s a b c d l A B C D)(k:c<16)(q:a≠b)(f:a≠c)(p:a≠d)(g:b≠c)(n:b≠d)(m:c≠d)(v:W32):QI s a b c d (l.set c v) A B v D:=
 ⟨by rw[q117];exact h.len,by rw[w_far (Ne.symm f)];exact h.ea,by rw[w_far (Ne.symm g)];exact h.eb,w_same (by rw[h.len];exact k),by rw[w_far m];exact h.ed,fun i h1 h2 e j=>by rw[w_far (Ne.symm e)];exact h.rest i h1 h2 e j⟩
theorem QI.set_d(h:QI s a b c d l A B C D)(k:d<16)(q:a≠b)(n:a≠c)(j:a≠d)(p:b≠c)(g:b≠d)(m:c≠d)(v:W32):QI s a b c d (l.set d v) A B C v:=
 ⟨by rw[q117];exact h.len,by rw[w_far (Ne.symm j)];exact h.ea,by rw[w_far (Ne.symm g)];exact h.eb,by rw[w_far (Ne.symm m)];exact h.ec,w_same (by rw[h.len];exact k),fun i h1 h2 f e=>by rw[w_far (Ne.symm e)];exact h.rest i h1 h2 f e⟩
theorem QI.eq {k:List W32}(h:QI s a b c d l A B C D)(h2:QI s a b c d k A B C D):l=k:=by
 apply List.ext_getElem (by rw[h.len,h2.len])
 intro i n p
 have e:l.getD i 0#32=k.getD i 0#32:=by
  by_cases j:i=a
  ·rw[j,h.ea,h2.ea]
  by_cases m:i=b
  ·rw[m,h.eb,h2.eb]
  by_cases f:i=c
  ·rw[f,h.ec,h2.ec]
  by_cases g:i=d
  ·rw[g,h.ed,h2.ed]
  rw[h.rest i j m f g,h2.rest i j m f g]
 simpa[List.getD,n,p]using e
end
theorem zdj {w:World} {X i:Nat} {l:List W32} {v:W32} {t:TypeId}(c:Blk w X (ints .u32 (ws l)) t)(d:l.getD i 0#32=v)(b:l.length=16)(a:i<16):w.cell? ⟨X,i,none⟩=some (.int .u32 (wi v)):=by
 rw[c.cell,zav (by rw[zca,b];exact a),ws_getD,d]
theorem qi_set {w:World} {X:Nat} {l:List W32} {t:TypeId}(a:Blk w X (ints .u32 (ws l)) t)(i:Nat)(v:W32):Blk (w.setCell ⟨X,i,none⟩ (.int .u32 (wi v))) X (ints .u32 (ws (l.set i v))) t:=by
 rw[←ws_set]
 exact a.seti i _
end
theorem quarter_any(X:Nat)(s:List W32)(a b c d:Nat)(w:World)(Q:Blk w X (ints .u32 (ws s)) 133)(hs:s.length=16)(A:a<16)(B:b<16)(z:c<16)(x:d<16)(l:a≠b)(k:a≠c)(j:a≠d)(t:b≠c)(n:b≠d)(m:c≠d):
  Calls Tryd.prog 85 #[.pointer (some ⟨X,0,none⟩),.int .i64 (a:Int),.int .i64 (b:Int),.int .i64 (c:Int),.int .i64 (d:Int)] w fun e w'=>e=.returned (.tuple #[])∧Blk w' X (ints .u32 (ws (qrt s a b c d))) 133∧w.grownBy w' (some X):=by
 have a0:(0:Int)≤(a:Int):=Int.natCast_nonneg _
 have a1:(a:Int)<16:=by omega
 have b0:(0:Int)≤(b:Int):=Int.natCast_nonneg _
 have b1:(b:Int)<16:=by omega
 have c0:(0:Int)≤(c:Int):=Int.natCast_nonneg _
 have c1:(c:Int)<16:=by omega
 have d0:(0:Int)≤(d:Int):=Int.natCast_nonneg _
 have d1:(d:Int)<16:=by omega
 obtain⟨Z,ag⟩:=nxq (s.getD a 0#32)
 obtain⟨y,a6⟩:=nxq (s.getD b 0#32)
 obtain⟨K,a3⟩:=nxq (s.getD c 0#32)
 obtain⟨T,ae⟩:=nxq (s.getD d 0#32)
 go_enter Tryd.func85,Tryd.ntmps85
 have H:QI s a b c d s Z y K T:=⟨hs,ag.symm,a6.symm,a3.symm,ae.symm,fun i _ _ _ _=>rfl⟩
 obtain⟨bc,aw,b9,b3⟩:=jq4 ag a6 a3 ae
 clear ag a6 a3 ae
 obtain⟨q,ao⟩:=nxq (Z+y)
 have s0:IntKind.u32.wrap (wi Z+wi y)=wi q:=by rw[ao];exact wi_add _ _
 have p0:=zdj Q H.ea H.len A
 have r0:=zdj Q H.eb H.len B
 have f0:=Q.free a
 obtain⟨au,ay,ab,bq⟩:=jq4 (qi_set Q a q) (H.set_a A l k j t n m q) (zbs (zaz (zbc w (some X)) a (.int .u32 (wi q))) 1) ao
 clear ao
 go_wp2_with fail
 go_region
 go_upto_region 1 with(fail)
 change Code.wp _ _ _ _ (w.setCell ⟨X,a,none⟩ (.int .u32 (wi q))).drew
 have Y:Blk (w.setCell ⟨X,a,none⟩ (.int .u32 (wi q))).drew X _ 133:=au.o
 have ab:Hid (w.grownBy (w.setCell ⟨X,a,none⟩ (.int .u32 (wi q))).drew (some X)):=jh ab.o
 have D:=ay.o
 clear au ay p0 r0 f0 s0 Q H
 generalize (w.setCell ⟨X,a,none⟩ (.int .u32 (wi q))).drew=N at*
 obtain⟨x1,am⟩:=nxq (T^^^q)
 have s1:bits .xor .u32 (wi T) (wi q)=wi x1:=by rw[am];exact wi_xor _ _
 obtain⟨u,ad⟩:=nxq (rotl x1 16)
 have ba:=fun w=>jh (rol_any x1 16 (by omega) w)
 rw[←ad]at ba
 have p1:=zdj Y D.ed D.len x
 have r1:=zdj Y D.ea D.len A
 have f1:=Y.free d
 obtain⟨b4,b5,ah,bm⟩:=jq4 (qi_set Y d u) (D.set_d x l k j t n m u) (zbs (zaz (ab.o) d (.int .u32 (wi u))) 1) ad
 clear ad
 have bv:=jh am
 clear am
 go_wp2_with fail
 refine wp_region_still_tail 16 (by kernel_rfl) (by kernel_rfl) ?_
 simp only[q138,List.take_zero,List.drop_succ_cons,List.drop_zero]
 repeat still_step
 still_call ((ba _).o.mono fun _ _ h=>⟨h.1,h.2.symm⟩)
 repeat still_step
 refine wpStill_nil ?_
 change wpList _ _ _ _ _ N.drew
 go_upto_region 2 with(fail)
 change Code.wp _ _ _ _ (N.drew.setCell ⟨X,d,none⟩ (.int .u32 (wi u)))
 have O:Blk (N.drew.setCell ⟨X,d,none⟩ (.int .u32 (wi u))) X _ 133:=b4.o
 have ah:Hid (w.grownBy (N.drew.setCell ⟨X,d,none⟩ (.int .u32 (wi u))) (some X)):=jh ah.o
 have C:=b5.o
 clear b4 b5 p1 r1 f1 s1 Y D
 generalize (N.drew.setCell ⟨X,d,none⟩ (.int .u32 (wi u)))=w2 at*
 obtain⟨p,an⟩:=nxq (K+u)
 have s2:IntKind.u32.wrap (wi K+wi u)=wi p:=by rw[an];exact wi_add _ _
 have p2:=zdj O C.ec C.len z
 have r2:=zdj O C.ed C.len x
 have f2:=O.free c
 obtain⟨bf,ax,a5,bk⟩:=jq4 (qi_set O c p) (C.set_c z l k j t n m p) (zbs (zaz (ah.o) c (.int .u32 (wi p))) 1) an
 clear an
 go_wp2_with fail
 go_region
 go_upto_region 3 with(fail)
 change Code.wp _ _ _ _ (w2.setCell ⟨X,c,none⟩ (.int .u32 (wi p))).drew
 have M:Blk (w2.setCell ⟨X,c,none⟩ (.int .u32 (wi p))).drew X _ 133:=bf.o
 have a5:Hid (w.grownBy (w2.setCell ⟨X,c,none⟩ (.int .u32 (wi p))).drew (some X)):=jh a5.o
 have F:=ax.o
 clear bf ax p2 r2 f2 s2 O C
 generalize (w2.setCell ⟨X,c,none⟩ (.int .u32 (wi p))).drew=U at*
 obtain⟨x3,a8⟩:=nxq (y^^^p)
 have s3:bits .xor .u32 (wi y) (wi p)=wi x3:=by rw[a8];exact wi_xor _ _
 obtain⟨v,aj⟩:=nxq (rotl x3 12)
 have b2:=fun w=>jh (rol_any x3 12 (by omega) w)
 rw[←aj]at b2
 have p3:=zdj M F.eb F.len B
 have r3:=zdj M F.ec F.len z
 have f3:=M.free b
 obtain⟨bb,aq,a4,bn⟩:=jq4 (qi_set M b v) (F.set_b B l k j t n m v) (zbs (zaz (a5.o) b (.int .u32 (wi v))) 1) aj
 clear aj
 have br:=jh a8
 clear a8
 go_wp2_with fail
 refine wp_region_still_tail 16 (by kernel_rfl) (by kernel_rfl) ?_
 simp only[q138,List.take_zero,List.drop_succ_cons,List.drop_zero]
 repeat still_step
 still_call ((b2 _).o.mono fun _ _ h=>⟨h.1,h.2.symm⟩)
 repeat still_step
 refine wpStill_nil ?_
 change wpList _ _ _ _ _ U.drew
 go_upto_region 4 with(fail)
 change Code.wp _ _ _ _ (U.drew.setCell ⟨X,b,none⟩ (.int .u32 (wi v)))
 have R:Blk (U.drew.setCell ⟨X,b,none⟩ (.int .u32 (wi v))) X _ 133:=bb.o
 have a4:Hid (w.grownBy (U.drew.setCell ⟨X,b,none⟩ (.int .u32 (wi v))) (some X)):=jh a4.o
 have I:=aq.o
 clear bb aq p3 r3 f3 s3 M F
 generalize (U.drew.setCell ⟨X,b,none⟩ (.int .u32 (wi v)))=w4 at*
 obtain⟨g,ak⟩:=nxq (q+v)
 have s4:IntKind.u32.wrap (wi q+wi v)=wi g:=by rw[ak];exact wi_add _ _
 have p4:=zdj R I.ea I.len A
 have r4:=zdj R I.eb I.len B
 have f4:=R.free a
 obtain⟨av,ar,ac,bl⟩:=jq4 (qi_set R a g) (I.set_a A l k j t n m g) (zbs (zaz (a4.o) a (.int .u32 (wi g))) 1) ak
 clear ak
 go_wp2_with fail
 go_region
 go_upto_region 5 with(fail)
 change Code.wp _ _ _ _ (w4.setCell ⟨X,a,none⟩ (.int .u32 (wi g))).drew
 have S:Blk (w4.setCell ⟨X,a,none⟩ (.int .u32 (wi g))).drew X _ 133:=av.o
 have ac:Hid (w.grownBy (w4.setCell ⟨X,a,none⟩ (.int .u32 (wi g))).drew (some X)):=jh ac.o
 have J:=ar.o
 clear av ar p4 r4 f4 s4 R I
 generalize (w4.setCell ⟨X,a,none⟩ (.int .u32 (wi g))).drew=P at*
 obtain⟨x5,al⟩:=nxq (u^^^g)
 have s5:bits .xor .u32 (wi u) (wi g)=wi x5:=by rw[al];exact wi_xor _ _
 obtain⟨r,aa⟩:=nxq (rotl x5 8)
 have az:=fun w=>jh (rol_any x5 8 (by omega) w)
 rw[←aa]at az
 have p5:=zdj S J.ed J.len x
 have r5:=zdj S J.ea J.len A
 have f5:=S.free d
 obtain⟨b6,be,a9,bt⟩:=jq4 (qi_set S d r) (J.set_d x l k j t n m r) (zbs (zaz (ac.o) d (.int .u32 (wi r))) 1) aa
 clear aa
 have bg:=jh al
 clear al
 go_wp2_with fail
 refine wp_region_still_tail 16 (by kernel_rfl) (by kernel_rfl) ?_
 simp only[q138,List.take_zero,List.drop_succ_cons,List.drop_zero]
 repeat still_step
 still_call ((az _).o.mono fun _ _ h=>⟨h.1,h.2.symm⟩)
 repeat still_step
 refine wpStill_nil ?_
 change wpList _ _ _ _ _ P.drew
 go_upto_region 6 with(fail)
 change Code.wp _ _ _ _ (P.drew.setCell ⟨X,d,none⟩ (.int .u32 (wi r)))
 have L:Blk (P.drew.setCell ⟨X,d,none⟩ (.int .u32 (wi r))) X _ 133:=b6.o
 have a9:Hid (w.grownBy (P.drew.setCell ⟨X,d,none⟩ (.int .u32 (wi r))) (some X)):=jh a9.o
 have E:=be.o
 clear b6 be p5 r5 f5 s5 S J
 generalize (P.drew.setCell ⟨X,d,none⟩ (.int .u32 (wi r)))=W at*
 obtain⟨f,ap⟩:=nxq (p+r)
 have s6:IntKind.u32.wrap (wi p+wi r)=wi f:=by rw[ap];exact wi_add _ _
 have p6:=zdj L E.ec E.len z
 have r6:=zdj L E.ed E.len x
 have f6:=L.free c
 obtain⟨bd,b7,af,bh⟩:=jq4 (qi_set L c f) (E.set_c z l k j t n m f) (zbs (zaz (a9.o) c (.int .u32 (wi f))) 1) ap
 clear ap
 go_wp2_with fail
 go_region
 go_upto_region 7 with(fail)
 change Code.wp _ _ _ _ (W.setCell ⟨X,c,none⟩ (.int .u32 (wi f))).drew
 have a2:Blk (W.setCell ⟨X,c,none⟩ (.int .u32 (wi f))).drew X _ 133:=bd.o
 have af:Hid (w.grownBy (W.setCell ⟨X,c,none⟩ (.int .u32 (wi f))).drew (some X)):=jh af.o
 have V:=b7.o
 clear bd b7 p6 r6 f6 s6 L E
 generalize (W.setCell ⟨X,c,none⟩ (.int .u32 (wi f))).drew=w7 at*
 obtain⟨x7,a7⟩:=nxq (v^^^f)
 have s7:bits .xor .u32 (wi v) (wi f)=wi x7:=by rw[a7];exact wi_xor _ _
 obtain⟨G,ai⟩:=nxq (rotl x7 7)
 have b8:=fun w=>jh (rol_any x7 7 (by omega) w)
 rw[←ai]at b8
 have p7:=zdj a2 V.eb V.len B
 have r7:=zdj a2 V.ec V.len z
 have f7:=a2.free b
 obtain⟨bj,bs,bp,bo⟩:=jq4 (qi_set a2 b G) (V.set_b B l k j t n m G) (zbs (zaz (af.o) b (.int .u32 (wi G))) 1) ai
 clear ai
 have bu:=jh a7
 clear a7
 go_wp2_with fail
 refine wp_region_still_tail 16 (by kernel_rfl) (by kernel_rfl) ?_
 simp only[q138,List.take_zero,List.drop_succ_cons,List.drop_zero]
 repeat still_step
 still_call ((b8 _).o.mono fun _ _ h=>⟨h.1,h.2.symm⟩)
 repeat still_step
 refine wpStill_nil ?_
 change wpList _ _ _ _ _ w7.drew
 go_wp2_with fail
 have hq:QI s a b c d (qrt s a b c d) g G f r:=by
  have q0:QI s a b c d s Z y K T:=⟨hs,bc.o.symm,aw.o.symm,b9.o.symm,b3.o.symm,fun i _ _ _ _=>rfl⟩
  have e1:=bq.o
  have e2:=bm.o
  have e3:=bk.o
  have e4:=bn.o
  have e5:=bl.o
  have e6:=bt.o
  have e7:=bh.o
  have e8:=bo.o
  have y1:=bv.o
  have y3:=br.o
  have y5:=bg.o
  have y7:=bu.o
  have bi:qr4 Z y K T=(g,G,f,r):=by
   rw[e8,y7,e7,e6,y5,e5,e4,y3,e3,e2,y1,e1]
   rfl
  have h:=((((q0.set_a A l k j t n m g).set_b B l k j t n m G).set_c z l k j t n m f).set_d x l k j t n m r)
  unfold qrt
  rw[←bc.o,←aw.o,←b9.o,←b3.o,bi]
  exact h
 have hL:=bs.o.eq hq
 have hB:=bj.o
 rw[hL]at hB
 refine bodyPost_end (results_none rfl _ _ _) rfl ?_
 exact⟨rfl,hB.drewN 1,bp.o⟩
theorem or_u32L(a b:Nat)(d:a<4294967296)(f:b<4294967296):bits .or .u32 (a:Int) (b:Int)=((a|||b:Nat):Int):=by
 have e:(BitVec.ofInt 32 (a:Int)).toNat=a:=by rw[BitVec.toNat_ofInt];omega
 have g:(BitVec.ofInt 32 (b:Int)).toNat=b:=by rw[BitVec.toNat_ofInt];omega
 show IntKind.u32.wrap ((BitVec.ofInt 32 (a:Int)|||BitVec.ofInt 32 (b:Int)).toNat:Nat)=_
 have c:a|||b<2^32:=Nat.or_lt_two_pow d f
 rw[BitVec.toNat_or,e,g,wrap_nat,q112 c]
theorem or4L(b a c d:Nat)(h0:b<256)(h1:a<256)(h2:c<256)(k:d<256):
  bits .or .u32 (bits .or .u32 (bits .or .u32 (b:Int) ((a:Int)*256)) ((c:Int)*65536)) ((d:Int)*16777216)=wi (BitVec.ofNat 32 (b+256*a+65536*c+16777216*d)):=by
 have j:(a:Int)*256=((256*a:Nat):Int):=by omega
 have f:(c:Int)*65536=((65536*c:Nat):Int):=by omega
 have g:(d:Int)*16777216=((16777216*d:Nat):Int):=by omega
 have i:b|||256*a=b+256*a:=(Nat.or_comm _ _).trans ((or_sum 8 b a h0).trans (Nat.add_comm _ _))
 have h:b+256*a|||65536*c=b+256*a+65536*c:=(Nat.or_comm _ _).trans ((or_sum 16 (b+256*a) c (by omega)).trans (Nat.add_comm _ _))
 have e:b+256*a+65536*c|||16777216*d=b+256*a+65536*c+16777216*d:=(Nat.or_comm _ _).trans ((or_sum 24 (b+256*a+65536*c) d (by omega)).trans (Nat.add_comm _ _))
 rw[j,f,g,or_u32L _ _ (by omega) (by omega),i,or_u32L _ _ (by omega) (by omega),h,or_u32L _ _ (by omega) (by omega),e,wi_lit _ (by omega)]
/-- A word is read off four bytes of a block. -/
theorem little_any(c off len cap:Nat)(cs:List UInt8)(t:TypeId)(w:World)(hb:Blk w c (cs.map bval) t)(hl:off+4≤cs.length)(h4:4≤len):
  Calls Tryd.prog 84 #[.slice (some ⟨c,off,none⟩) len cap] w fun e w'=>e=.returned (.int .u32 (wi (leW cs off)))∧w'=w.drew:=by
 have cc:∀j,j≤3→w.cell? ⟨c,off+j,none⟩=some (.int .u8 ((cs.getD (off+j) 0).toNat:Int)):=fun j hj=>by
  rw[hb.cell,zbf (by omega)]
 have c0:=cc 0 (by omega)
 have c1:=cc 1 (by omega)
 have c2:=cc 2 (by omega)
 have c3:=cc 3 (by omega)
 simp only[Nat.add_zero]at c0
 have d0:=UInt8.toNat_lt (cs.getD off 0)
 have d1:=UInt8.toNat_lt (cs.getD (off+1) 0)
 have d2:=UInt8.toNat_lt (cs.getD (off+2) 0)
 have d3:=UInt8.toNat_lt (cs.getD (off+3) 0)
 have HBE:Hid (leW cs off=BitVec.ofNat 32 ((cs.getD off 0).toNat+256*(cs.getD (off+1) 0).toNat+65536*(cs.getD (off+2) 0).toNat+16777216*(cs.getD (off+3) 0).toNat)):=jh rfl
 generalize (cs.getD off 0).toNat=x0 at*
 generalize (cs.getD (off+1) 0).toNat=x1 at*
 generalize (cs.getD (off+2) 0).toNat=x2 at*
 generalize (cs.getD (off+3) 0).toNat=x3 at*
 clear cc hb hl
 have i0:(0:Int)<(len:Int)∧(1:Int)<(len:Int)∧(2:Int)<(len:Int)∧(3:Int)<(len:Int):=by omega
 obtain⟨i0,i1,i2,i3⟩:=i0
 go_enter Tryd.func84,Tryd.ntmps84
 go_wp2_with fail
 go_region
 go_wp2_with fail
 go_ret
 exact⟨by rw[HBE.o,←or4L x0 x1 x2 x3 d0 d1 d2 d3];rfl,rfl⟩
def chaK(key:List UInt8):Nat→List W32
 |0=>[0x61707865#32,0x3320646e#32,0x79622d32#32,0x6b206574#32,0,0,0,0,0,0,0,0,0,0,0,0]
 |k+1=>(chaK key k).set (4+k) (leW key (4*k))
def chaN(key:List UInt8)(ctr:W32)(nonce:List UInt8):Nat→List W32
 |0=>(chaK key 8).set 12 ctr
 |k+1=>(chaN key ctr nonce k).set (13+k) (leW nonce (4*k))
theorem chaK_length(key:List UInt8):∀k,(chaK key k).length=16
 |0=>rfl
 |k+1=>by rw[chaK,q117,chaK_length key k]
theorem chaN_length(key:List UInt8)(b:W32)(a:List UInt8):∀k,(chaN key b a k).length=16
 |0=>by rw[chaN,q117,chaK_length]
 |k+1=>by rw[chaN,q117,chaN_length key b a k]
theorem chaN_full(key:List UInt8)(b:W32)(a:List UInt8):chaN key b a 3=chaInit key b a:=rfl
theorem and_mask32(a:Int)(h1: -9223372036854775808≤a)(h2:a≤9223372036854775807):bits .and .i64 a 4294967295=a%4294967296:=by
 have h:(BitVec.ofInt 64 4294967295).toNat=2^32 - 1:=by decide
 have key:(BitVec.ofInt 64 a &&& BitVec.ofInt 64 4294967295).toNat=(a%((2^64:Nat):Int)).toNat%2^32:=by
  rw[BitVec.toNat_and,BitVec.toNat_ofInt,h,q124]
 show IntKind.i64.wrap ((BitVec.ofInt 64 a &&& BitVec.ofInt 64 4294967295).toNat:Nat)=_
 rw[key,IntKind.wrap_i64]
 omega
theorem ctr_word(a:Int):IntKind.u32.wrap (a%4294967296)=wi (BitVec.ofInt 32 a):=by
 unfold wi
 rw[BitVec.toNat_ofInt,IntKind.wrap_u32]
 omega
theorem set_word {w:World} {S:Nat} {l:List W32} {t:TypeId}(h:Blk w S (ints .u32 (ws l)) t)(i:Nat)(z:Int)(v:W32)(a:z=wi v):Blk (w.setCell ⟨S,i,none⟩ (.int .u32 z)) S (ints .u32 (ws (l.set i v))) t:=by
 subst a
 rw[←ws_set]
 exact h.seti i _
theorem zea {w:World} {S i:Nat} {l:List W32} {t:TypeId}(h:Blk w S (ints .u32 (ws l)) t)(a:i<l.length):w.cell? ⟨S,i,none⟩=some (.int .u32 (wi (l.getD i 0#32))):=by
 rw[h.cell,zav (by rw[zca];exact a),ws_getD]
theorem cut_arrL {t:TypeId} {n:Nat} {e:TypeId}(ht:Tryd.prog.underlying t=some (.array n e))(h:∀w,(sizeOf e).run Tryd.prog w=.ok 1 w)(w:World)(A p:Nat)(c:p<n):
  (Instr.sliceAt t (.pointer (some ⟨A,0,none⟩)) (some (.int .i64 (p:Int))) none none).run Tryd.prog w=.ok (.slice (some ⟨A,p,none⟩) (n - p) (n - p)) w:=by
 have a:Tryd.prog.arrayLen t=n:=by unfold Program.arrayLen;rw[ht]
 have b:Tryd.prog.elem t=e:=by unfold Program.elem;rw[ht]
 rw[run_sliceAt_array_l w t ⟨A,0,none⟩ (by rw[a,b];exact ht) .i64 (p:Int) (by omega) (by rw[a];omega),b,h,a]
 simp[slicedAt,Addr.add,show ¬n=p by omega]
 exact fun h=>h.symm
theorem and_u32_255(n:Nat):bits .and .u32 (n:Int) 255=((n%256:Nat):Int):=by
 have h:(BitVec.ofInt 32 255).toNat=2^8 - 1:=by decide
 have key:(BitVec.ofInt 32 (n:Int) &&& BitVec.ofInt 32 255).toNat=((n:Int)%((2^32:Nat):Int)).toNat%2^8:=by
  rw[BitVec.toNat_and,BitVec.toNat_ofInt,h,q124]
 show IntKind.u32.wrap ((BitVec.ofInt 32 (n:Int) &&& BitVec.ofInt 32 255).toNat:Nat)=_
 rw[key,IntKind.wrap_u32]
 omega
theorem word_byte(a:W32)(r:Nat)(y:UInt8)(h:y=UInt8.ofNat (a.toNat / 2^(8*r)%256)):bits .and .u32 (wi a / 2^(8*r)) 255%256=(y.toNat:Int):=by
 have e:wi a / 2^(8*r)=((a.toNat / 2^(8*r):Nat):Int):=by
  unfold wi
  rw[Int.natCast_ediv,Int.natCast_pow]
  rfl
 rw[e,and_u32_255,h]
 have:(UInt8.ofNat (a.toNat / 2^(8*r)%256)).toNat=a.toNat / 2^(8*r)%256:=UInt8.toNat_ofNat_of_lt' (by show _<256;omega)
 rw[this]
 omega
theorem leB_getD(h:List W32) {n i:Nat}(a:i<n):(leB h n).getD i 0=UInt8.ofNat ((h.getD (i / 4) 0#32).toNat / 2^(8*(i%4))%256):=by
 unfold leB
 rw[List.getD_eq_getElem?_getD,List.getElem?_map,List.getElem?_range a]
 rfl
theorem far_ext {w a:World} {S i:Nat} {v:Value}(h:Ext w a)(b:w.heap.size≤S):Ext w (a.setCell ⟨S,i,none⟩ v):=Below.setCell h b _
theorem zdv(X:Nat)(s t:List W32)(a b c d:Nat)(f j i id:Int)(w:World)(A:Blk w X (ints .u32 (ws s)) 133)(m:s.length=16)(n:f=a)(B:j=b)(y:i=c)(v:id=d)(ht:qrt s a b c d=t)
  (h:a<16∧b<16∧c<16∧d<16∧a≠b∧a≠c∧a≠d∧b≠c∧b≠d∧c≠d):
  Calls Tryd.prog 85 #[.pointer (some ⟨X,0,none⟩),.int .i64 f,.int .i64 j,.int .i64 i,.int .i64 id] w fun e g=>e=.returned (.tuple #[])∧Blk g X (ints .u32 (ws t)) 133∧w.grownBy g (some X):=by
 subst n B y v ht
 obtain⟨h1,h2,k,q,x,l,r,p,u,z⟩:=h
 exact quarter_any X s a b c d w A m h1 h2 k q x l r p u z
theorem rBlock_any(q nb:List UInt8)(c:Int)(w:World)(P:q.length=32)(hn:nb.length=12)(bb: -9223372036854775808≤c)(av:c≤9223372036854775807):
  Calls Tryd.prog 76 #[.agg (q.map bval).toArray,.int .i64 c,.agg (nb.map bval).toArray] w fun e w'=>e=.returned (.agg ((chaBlock q (BitVec.ofInt 32 c) nb).map bval).toArray)∧Below w.heap.size w w':=by
 obtain⟨b6,bd,HB,ao,ae⟩:=jq5 P hn (boxes4 w (q.map bval) (nb.map bval) (ints .u8 (List.replicate 64 0)) (ints .u32 (ws (List.replicate 16 0#32))) 23 97 26 133) (and_mask32 c bb av) (ctr_word c)
 obtain⟨H,af⟩:=nxq (BitVec.ofInt 32 c)
 have b8:=jh af
 rw[←af]at ae
 clear P hn bb av af
 go_enter Tryd.func76,Tryd.ntmps76
 go_upto_region 2 with(fail)
 obtain⟨m,n,f,b,g⟩:=HB.o
 change Code.wp _ _ _ _ ((((w.alloc (.cells (q.map bval).toArray 23)).alloc (.cells (nb.map bval).toArray 97)).alloc (.cells (ints .u8 (List.replicate 64 0)).toArray 26)).alloc (.cells (ints .u32 (ws (List.replicate 16 0#32))).toArray 133))
 generalize (((w.alloc (.cells (q.map bval).toArray 23)).alloc (.cells (nb.map bval).toArray 97)).alloc (.cells (ints .u8 (List.replicate 64 0)).toArray 26)).alloc (.cells (ints .u32 (ws (List.replicate 16 0#32))).toArray 133)=wa at*
 obtain⟨B,hB⟩:=nxq w.heap.size
 have Q:Hid (w.heap.size≤B):=jh (by omega)
 rw[←hB]at m n f b⊢
 obtain⟨m,n,f,b⟩:=jq4 m n f b
 have g:Hid (Ext w wa):=jh g
 clear hB HB
 obtain⟨S,hS⟩:=nxq (B+1+1+1)
 have p:Hid (B+3≤S∧S≤B+3):=jh (by omega)
 rw[←hS]at b⊢
 clear hS
 obtain⟨R,hR⟩:=nxq (B+1+1)
 have O:Hid (B+2≤R∧R≤B+2):=jh (by omega)
 rw[←hR]at f⊢
 clear hR
 have f0:=b.o.free 0
 obtain⟨u0,c0⟩:∃u,wa.cell? ⟨S,0,none⟩=some u:=⟨_,zea b.o (by simp)⟩
 have an:=jh (set_word b.o 0 1634760805 0x61707865#32 rfl)
 have E:=jh (far_ext (S:=S) (i:=0) (v:=.int .u32 1634760805) g.o (by have:=Q.o;have:=p.o;omega))
 have J:=jh (m.o.far (a:=⟨S,0,none⟩) (by have:=p.o;simp;omega) (.int .u32 1634760805))
 have I:=jh (n.o.far (a:=⟨S,0,none⟩) (by have:=p.o;simp;omega) (.int .u32 1634760805))
 have F:=jh (f.o.far (a:=⟨S,0,none⟩) (by have:=p.o;have:=O.o;simp;omega) (.int .u32 1634760805))
 go_upto_region 3 with(fail)
 clear m n f b g f0 c0
 generalize wa.setCell ⟨S,0,none⟩ (.int .u32 1634760805)=bi at*
 have m:=J
 have n:=I
 have f:=F
 have b:=an
 have g:=E
 clear J I F an E
 have f1:=b.o.free 1
 obtain⟨u1,c1⟩:∃u,bi.cell? ⟨S,1,none⟩=some u:=⟨_,zea b.o (by simp)⟩
 have bn:=jh (set_word b.o 1 857760878 0x3320646e#32 rfl)
 have E:=jh (far_ext (S:=S) (i:=1) (v:=.int .u32 857760878) g.o (by have:=Q.o;have:=p.o;omega))
 have J:=jh (m.o.far (a:=⟨S,1,none⟩) (by have:=p.o;simp;omega) (.int .u32 857760878))
 have I:=jh (n.o.far (a:=⟨S,1,none⟩) (by have:=p.o;simp;omega) (.int .u32 857760878))
 have F:=jh (f.o.far (a:=⟨S,1,none⟩) (by have:=p.o;have:=O.o;simp;omega) (.int .u32 857760878))
 go_upto_region 4 with(fail)
 clear m n f b g f1 c1
 generalize bi.setCell ⟨S,1,none⟩ (.int .u32 857760878)=am at*
 have m:=J
 have n:=I
 have f:=F
 have b:=bn
 have g:=E
 clear J I F bn E
 have f2:=b.o.free 2
 obtain⟨u2,c2⟩:∃u,am.cell? ⟨S,2,none⟩=some u:=⟨_,zea b.o (by simp)⟩
 have b2:=jh (set_word b.o 2 2036477234 0x79622d32#32 rfl)
 have E:=jh (far_ext (S:=S) (i:=2) (v:=.int .u32 2036477234) g.o (by have:=Q.o;have:=p.o;omega))
 have J:=jh (m.o.far (a:=⟨S,2,none⟩) (by have:=p.o;simp;omega) (.int .u32 2036477234))
 have I:=jh (n.o.far (a:=⟨S,2,none⟩) (by have:=p.o;simp;omega) (.int .u32 2036477234))
 have F:=jh (f.o.far (a:=⟨S,2,none⟩) (by have:=p.o;have:=O.o;simp;omega) (.int .u32 2036477234))
 go_upto_region 5 with(fail)
 clear m n f b g f2 c2
 generalize am.setCell ⟨S,2,none⟩ (.int .u32 2036477234)=ar at*
 have m:=J
 have n:=I
 have f:=F
 have b:=b2
 have g:=E
 clear J I F b2 E
 have f3:=b.o.free 3
 obtain⟨u3,c3⟩:∃u,ar.cell? ⟨S,3,none⟩=some u:=⟨_,zea b.o (by simp)⟩
 have b5:=jh (set_word b.o 3 1797285236 0x6b206574#32 rfl)
 have E:=jh (far_ext (S:=S) (i:=3) (v:=.int .u32 1797285236) g.o (by have:=Q.o;have:=p.o;omega))
 have J:=jh (m.o.far (a:=⟨S,3,none⟩) (by have:=p.o;simp;omega) (.int .u32 1797285236))
 have I:=jh (n.o.far (a:=⟨S,3,none⟩) (by have:=p.o;simp;omega) (.int .u32 1797285236))
 have F:=jh (f.o.far (a:=⟨S,3,none⟩) (by have:=p.o;have:=O.o;simp;omega) (.int .u32 1797285236))
 go_upto_region 6 with(fail)
 clear m n f b g f3 c3
 generalize ar.setCell ⟨S,3,none⟩ (.int .u32 1797285236)=c9 at*
 have m:=J
 have n:=I
 have f:=F
 have b:=b5
 have g:=E
 clear J I F b5 E
 have b:Hid (Blk c9 S (ints .u32 (ws (chaK q 0))) 133):=jh b.o
 go_wp2_with fail
 go_loopw [8] (fun G wr=>∃(k:Nat),k≤8∧G=.int .i64 (k:Int)∧Blk wr B (q.map bval) 23∧Blk wr (B+1) (nb.map bval) 97∧Blk wr R (ints .u8 (List.replicate 64 0)) 26∧Blk wr S (ints .u32 (ws (chaK q k))) 133∧Ext w wr) (fun G _=>8 - (intOf G).toNat)
 case atStart=>exact⟨0,by omega,rfl,m.o,n.o,f.o,b.o,g.o⟩
 case round=>
  clear m n f b g
  obtain⟨k,P,rfl,L,K,D,A,C⟩:=hrel
  have k0:(0:Int)≤(k:Int):=Int.natCast_nonneg _
  by_cases a0:k<8
  ·have k1:(k:Int)<8:=by omega
   have hs:=cut_arrL Tryd.underlying23 Tryd.sizeOf5 wr (B) (4*k) (by omega)
   have e4:((4*k:Nat):Int)=4*(k:Int):=by omega
   rw[e4]at hs
   have HW:=jh (little_any (B) (4*k) (32 - 4*k) (32 - 4*k) q 23 wr L (by have:=b6.o;omega) (by omega))
   obtain⟨m,n,f,b,g⟩:=jq5 L K D A C
   clear L K D A C e4
   go_wp2_with fail
   refine HW.o.mono ?_
   rintro e U ⟨rfl,rfl⟩
   have m:Hid (Blk wr.drew B (q.map bval) 23):=jh m.o
   have n:Hid (Blk wr.drew (B+1) (nb.map bval) 97):=jh n.o
   have f:Hid (Blk wr.drew R (ints .u8 (List.replicate 64 0)) 26):=jh f.o
   have b:Hid (Blk wr.drew S (ints .u32 (ws (chaK q k))) 133):=jh b.o
   have g:Hid (Ext w wr.drew):=jh (g.o.trans (Ext.drew _))
   clear HW hs
   generalize wr.drew=U at*
   have f0:=b.o.free (4+k)
   obtain⟨u,c0⟩:∃u,U.cell? ⟨S,4+k,none⟩=some u:=⟨_,zea b.o (by rw[chaK_length];omega)⟩
   have i0:(0:Int)≤4+(k:Int):=by omega
   have i1:(4:Int)+(k:Int)<16:=by omega
   have i2:((4:Int)+(k:Int)).toNat=4+k:=by omega
   have Z:Hid (Blk (U.setCell ⟨S,4+k,none⟩ (.int .u32 (wi (leW q (4*k))))) S (ints .u32 (ws (chaK q (k+1)))) 133):=jh (set_word b.o (4+k) _ (leW q (4*k)) rfl)
   generalize leW q (4*k)=lw at*
   go_wp2_with fail
   go_roundw
   case rel=>exact⟨k+1,by omega,by go_num,m.o.far (by have:=p.o;simp;omega) _,n.o.far (by have:=p.o;simp;omega) _,f.o.far (by have:=p.o;have:=O.o;simp;omega) _,Z.o,far_ext g.o (by have:=Q.o;have:=p.o;omega)⟩
   case measure=>simp[intOf];omega
  have V:k=8:=by omega
  subst V
  rw[show ((8:Nat):Int)=8 from rfl]
  obtain⟨m,n,f,b,g⟩:=jq5 L K D A C
  clear L K D A C k0 P
  have f0:=b.o.free 12
  obtain⟨u,c0⟩:∃u,wr.cell? ⟨S,12,none⟩=some u:=⟨_,zea b.o (by rw[chaK_length];omega)⟩
  have Z:Hid (Blk (wr.setCell ⟨S,12,none⟩ (.int .u32 (wi H))) S (ints .u32 (ws (chaN q H nb 0))) 133):=jh (set_word b.o 12 _ H rfl)
  have bu:=ao.o
  have bt:=ae.o
  have J:=jh (m.o.far (a:=⟨S,12,none⟩) (by have:=p.o;simp;omega) (.int .u32 (wi H)))
  have I:=jh (n.o.far (a:=⟨S,12,none⟩) (by have:=p.o;simp;omega) (.int .u32 (wi H)))
  have F:=jh (f.o.far (a:=⟨S,12,none⟩) (by have:=p.o;have:=O.o;simp;omega) (.int .u32 (wi H)))
  have E:Hid (Ext w (wr.setCell ⟨S,12,none⟩ (.int .u32 (wi H)))):=jh (far_ext g.o (by have:=Q.o;have:=p.o;omega))
  go_upto_region 11 with(fail)
  clear m n f b g f0 c0 bu bt
  generalize wr.setCell ⟨S,12,none⟩ (.int .u32 (wi H))=w6 at*
  have m:=J
  have n:=I
  have f:=F
  have b:=Z
  have g:=E
  clear J I F Z E
  go_wp2_with fail
  go_loopw [9] (fun G wr=>∃(k:Nat),k≤3∧G=.int .i64 (k:Int)∧Blk wr B (q.map bval) 23∧Blk wr (B+1) (nb.map bval) 97∧Blk wr R (ints .u8 (List.replicate 64 0)) 26∧Blk wr S (ints .u32 (ws (chaN q H nb k))) 133∧Ext w wr) (fun G _=>3 - (intOf G).toNat)
  case atStart=>exact⟨0,by omega,rfl,m.o,n.o,f.o,b.o,g.o⟩
  case round=>
   clear m n f b g
   obtain⟨k,P,rfl,L,K,D,A,C⟩:=hrel
   have k0:(0:Int)≤(k:Int):=Int.natCast_nonneg _
   by_cases a0:k<3
   ·have k1:(k:Int)<3:=by omega
    have hs:=cut_arrL Tryd.underlying97 Tryd.sizeOf5 wr ((B+1)) (4*k) (by omega)
    have e4:((4*k:Nat):Int)=4*(k:Int):=by omega
    rw[e4]at hs
    have HW:=jh (little_any ((B+1)) (4*k) (12 - 4*k) (12 - 4*k) nb 97 wr K (by have:=bd.o;omega) (by omega))
    obtain⟨m,n,f,b,g⟩:=jq5 L K D A C
    clear L K D A C e4
    go_wp2_with fail
    refine HW.o.mono ?_
    rintro e U ⟨rfl,rfl⟩
    have m:Hid (Blk wr.drew B (q.map bval) 23):=jh m.o
    have n:Hid (Blk wr.drew (B+1) (nb.map bval) 97):=jh n.o
    have f:Hid (Blk wr.drew R (ints .u8 (List.replicate 64 0)) 26):=jh f.o
    have b:Hid (Blk wr.drew S (ints .u32 (ws (chaN q H nb k))) 133):=jh b.o
    have g:Hid (Ext w wr.drew):=jh (g.o.trans (Ext.drew _))
    clear HW hs
    generalize wr.drew=U at*
    have f0:=b.o.free (13+k)
    obtain⟨u,c0⟩:∃u,U.cell? ⟨S,13+k,none⟩=some u:=⟨_,zea b.o (by rw[chaN_length];omega)⟩
    have i0:(0:Int)≤13+(k:Int):=by omega
    have i1:(13:Int)+(k:Int)<16:=by omega
    have i2:((13:Int)+(k:Int)).toNat=13+k:=by omega
    have Z:Hid (Blk (U.setCell ⟨S,13+k,none⟩ (.int .u32 (wi (leW nb (4*k))))) S (ints .u32 (ws (chaN q H nb (k+1)))) 133):=jh (set_word b.o (13+k) _ (leW nb (4*k)) rfl)
    generalize leW nb (4*k)=lw at*
    go_wp2_with fail
    go_roundw
    case rel=>exact⟨k+1,by omega,by go_num,m.o.far (by have:=p.o;simp;omega) _,n.o.far (by have:=p.o;simp;omega) _,f.o.far (by have:=p.o;have:=O.o;simp;omega) _,Z.o,far_ext g.o (by have:=Q.o;have:=p.o;omega)⟩
    case measure=>simp[intOf];omega
   have V:k=3:=by omega
   subst V
   rw[show ((3:Nat):Int)=3 from rfl]
   obtain⟨m,n,f,b,g⟩:=jq5 L K D A C
   clear L K D A C k0 P
   rw[chaN_full]at b
   have a2:=jh (chaInit_length q H nb)
   have bz:Hid (leB (wAdd (dRun (chaInit q H nb) 10) (chaInit q H nb)) 64=chaBlock q (BitVec.ofInt 32 c) nb):=jh (by rw[←b8.o];rfl)
   generalize chaInit q H nb=s at*
   have HZ:=jh (Blk.made wr (ints .u32 (ws (List.replicate 16 0#32))) 133)
   have M:=Ext.alloc wr (.cells (ints .u32 (ws (List.replicate 16 0#32))).toArray 133)
   have f:=xxb f M
   obtain⟨aj,ad⟩:=jq2 g.o.size b.o.lt
   have ah:Hid (R<wr.heap.size):=jh (by have:=p.o;have:=O.o;have:=b.o.lt;omega)
   have b4:=xxb b M
   have g:=xxt g M
   have ag:Hid ((Tryd.prog.info? 133).map (·.size)=some (ints .u32 (ws s)).length):=jh (by rw[zaa,zca,a2.o];kernel_rfl)
   have bk:Hid ((ints .u32 (ws s)).length=(ints .u32 (ws (List.replicate 16 0#32))).length):=jh (by rw[zaa,zca,a2.o,zaa,zca,q110])
   clear M m n b6 bd ao ae b8
   go_upto_region 16 with(first|(refine slb S b.o Tryd.underlying133 ag.o ?_)|(refine ssb wr.heap.size (ints .u32 (ws s)) HZ.o bk.o ag.o (zai _ _) ?_;intro w7 b1 a9))
   have f:=jh (f.o.grown a9 (fun e=>by have h:=Option.some.inj e;have:=ah.o;omega))
   have b:=jh (b4.o.grown a9 (fun e=>by have h:=Option.some.inj e;have:=ad.o;omega))
   obtain⟨g,t⟩:=jq2 (zab g.o a9 aj.o) b1
   obtain⟨X,hX⟩:=nxq wr.heap.size
   have y:Hid (w.heap.size≤X∧S<X∧R<X):=jh (by have:=aj.o;have:=ad.o;have:=ah.o;omega)
   rw[←hX]at t⊢
   clear b1 a9 HZ b4 aj ad ah ag bk hX
   go_wp2_with fail
   go_loopw [11] (fun G wr=>∃(k:Nat),k≤10∧G=.int .i64 (k:Int)∧Blk wr R (ints .u8 (List.replicate 64 0)) 26∧Blk wr S (ints .u32 (ws s)) 133∧Blk wr X (ints .u32 (ws (dRun s k))) 133∧Ext w wr) (fun G _=>10 - (intOf G).toNat)
   case atStart=>exact⟨0,by omega,rfl,f.o,b.o,t.o,g.o⟩
   case round=>
    clear f b t g
    obtain⟨k,P,rfl,D,A,N,C⟩:=hrel
    have k0:(0:Int)≤(k:Int):=Int.natCast_nonneg _
    by_cases a0:k<10
    ·have k1:(k:Int)<10:=by omega
     have HD:Hid (dround (dRun s k)=dRun s (k+1)):=jh rfl
     have ba:Hid ((dRun s k).length=16):=jh (by rw[dRun_length];exact a2.o)
     obtain⟨f,b,t,g⟩:=jq4 D A N C
     clear D A N C
     generalize dRun s k=q0 at*
     obtain⟨q1,a6⟩:=nxq (qrt q0 0 4 8 12)
     have b3:=jh (zdv X q0 q1 0 4 8 12 0 4 8 12 _ t.o ba.o rfl rfl rfl rfl a6.symm (by decide))
     have bp:Hid (q1.length=16):=jh (by rw[a6,zdh];exact ba.o)
     have bl:=jh a6
     clear a6
     go_wp2_with fail
     refine b3.o.mono ?_
     rintro e v1 ⟨rfl,z,l⟩
     have f:=jh (f.o.grown l (fun e=>by have h:=Option.some.inj e;have:=y.o;omega))
     have b:=jh (b.o.grown l (fun e=>by have h:=Option.some.inj e;have:=y.o;omega))
     obtain⟨g,t⟩:=jq2 (zab g.o l y.o.1) z
     clear z l b3
     obtain⟨q2,a8⟩:=nxq (qrt q1 1 5 9 13)
     have b7:=jh (zdv X q1 q2 1 5 9 13 1 5 9 13 _ t.o bp.o rfl rfl rfl rfl a8.symm (by decide))
     have bm:Hid (q2.length=16):=jh (by rw[a8,zdh];exact bp.o)
     have ak:=jh a8
     clear a8
     go_wp2_with fail
     refine b7.o.mono ?_
     rintro e v2 ⟨rfl,z,l⟩
     have f:=jh (f.o.grown l (fun e=>by have h:=Option.some.inj e;have:=y.o;omega))
     have b:=jh (b.o.grown l (fun e=>by have h:=Option.some.inj e;have:=y.o;omega))
     obtain⟨g,t⟩:=jq2 (zab g.o l y.o.1) z
     clear z l b7
     obtain⟨q3,aa⟩:=nxq (qrt q2 2 6 10 14)
     have b0:=jh (zdv X q2 q3 2 6 10 14 2 6 10 14 _ t.o bm.o rfl rfl rfl rfl aa.symm (by decide))
     have ax:Hid (q3.length=16):=jh (by rw[aa,zdh];exact bm.o)
     have bq:=jh aa
     clear aa
     go_wp2_with fail
     refine b0.o.mono ?_
     rintro e v3 ⟨rfl,z,l⟩
     have f:=jh (f.o.grown l (fun e=>by have h:=Option.some.inj e;have:=y.o;omega))
     have b:=jh (b.o.grown l (fun e=>by have h:=Option.some.inj e;have:=y.o;omega))
     obtain⟨g,t⟩:=jq2 (zab g.o l y.o.1) z
     clear z l b0
     obtain⟨q4,a5⟩:=nxq (qrt q3 3 7 11 15)
     have al:=jh (zdv X q3 q4 3 7 11 15 3 7 11 15 _ t.o ax.o rfl rfl rfl rfl a5.symm (by decide))
     have be:Hid (q4.length=16):=jh (by rw[a5,zdh];exact ax.o)
     have az:=jh a5
     clear a5
     go_wp2_with fail
     refine al.o.mono ?_
     rintro e v4 ⟨rfl,z,l⟩
     have f:=jh (f.o.grown l (fun e=>by have h:=Option.some.inj e;have:=y.o;omega))
     have b:=jh (b.o.grown l (fun e=>by have h:=Option.some.inj e;have:=y.o;omega))
     obtain⟨g,t⟩:=jq2 (zab g.o l y.o.1) z
     clear z l al
     obtain⟨q5,ab⟩:=nxq (qrt q4 0 5 10 15)
     have ap:=jh (zdv X q4 q5 0 5 10 15 0 5 10 15 _ t.o be.o rfl rfl rfl rfl ab.symm (by decide))
     have bf:Hid (q5.length=16):=jh (by rw[ab,zdh];exact be.o)
     have bs:=jh ab
     clear ab
     go_wp2_with fail
     refine ap.o.mono ?_
     rintro e v5 ⟨rfl,z,l⟩
     have f:=jh (f.o.grown l (fun e=>by have h:=Option.some.inj e;have:=y.o;omega))
     have b:=jh (b.o.grown l (fun e=>by have h:=Option.some.inj e;have:=y.o;omega))
     obtain⟨g,t⟩:=jq2 (zab g.o l y.o.1) z
     clear z l ap
     obtain⟨q6,a7⟩:=nxq (qrt q5 1 6 11 12)
     have bo:=jh (zdv X q5 q6 1 6 11 12 1 6 11 12 _ t.o bf.o rfl rfl rfl rfl a7.symm (by decide))
     have bh:Hid (q6.length=16):=jh (by rw[a7,zdh];exact bf.o)
     have bj:=jh a7
     clear a7
     go_wp2_with fail
     refine bo.o.mono ?_
     rintro e v6 ⟨rfl,z,l⟩
     have f:=jh (f.o.grown l (fun e=>by have h:=Option.some.inj e;have:=y.o;omega))
     have b:=jh (b.o.grown l (fun e=>by have h:=Option.some.inj e;have:=y.o;omega))
     obtain⟨g,t⟩:=jq2 (zab g.o l y.o.1) z
     clear z l bo
     obtain⟨q7,ac⟩:=nxq (qrt q6 2 7 8 13)
     have b9:=jh (zdv X q6 q7 2 7 8 13 2 7 8 13 _ t.o bh.o rfl rfl rfl rfl ac.symm (by decide))
     have au:Hid (q7.length=16):=jh (by rw[ac,zdh];exact bh.o)
     have br:=jh ac
     clear ac
     go_wp2_with fail
     refine b9.o.mono ?_
     rintro e v7 ⟨rfl,z,l⟩
     have f:=jh (f.o.grown l (fun e=>by have h:=Option.some.inj e;have:=y.o;omega))
     have b:=jh (b.o.grown l (fun e=>by have h:=Option.some.inj e;have:=y.o;omega))
     obtain⟨g,t⟩:=jq2 (zab g.o l y.o.1) z
     clear z l b9
     obtain⟨q8,a4⟩:=nxq (qrt q7 3 4 9 14)
     have bg:=jh (zdv X q7 q8 3 4 9 14 3 4 9 14 _ t.o au.o rfl rfl rfl rfl a4.symm (by decide))
     have ca:Hid (q8.length=16):=jh (by rw[a4,zdh];exact au.o)
     have bc:=jh a4
     clear a4
     go_wp2_with fail
     refine bg.o.mono ?_
     rintro e v8 ⟨rfl,z,l⟩
     have f:=jh (f.o.grown l (fun e=>by have h:=Option.some.inj e;have:=y.o;omega))
     have b:=jh (b.o.grown l (fun e=>by have h:=Option.some.inj e;have:=y.o;omega))
     obtain⟨g,t⟩:=jq2 (zab g.o l y.o.1) z
     clear z l bg
     have bv:Hid (q8=dRun s (k+1)):=jh (by rw[←HD.o,bc.o,br.o,bj.o,bs.o,az.o,bq.o,ak.o,bl.o];rfl)
     clear bl ak bq az bs bj br bc
     go_wp2_with fail
     go_roundw
     case rel=>exact⟨k+1,by omega,by go_num,f.o,b.o,by rw[←bv.o];exact t.o,g.o⟩
     case measure=>simp[intOf];omega
    have V:k=10:=by omega
    subst V
    rw[show ((10:Nat):Int)=10 from rfl]
    obtain⟨f,b,t,g⟩:=jq4 D A N C
    clear D A N C k0 P
    have bx:Hid ((dRun s 10).length=16):=jh (by rw[dRun_length];exact a2.o)
    generalize dRun s 10=x at*
    have a1:Hid ((leB (wAdd x s) 64).length=64):=jh (leB_length _ _)
    have c7:Hid (∀j,j<64→(leB (wAdd x s) 64).getD j 0=UInt8.ofNat ((x.getD (j / 4) 0#32+s.getD (j / 4) 0#32).toNat / 2^(8*(j%4))%256)):=jh (fun j hj=>by
     rw[←wAdd_getD x s (by omega:j / 4<16)]
     exact leB_getD _ hj)
    generalize leB (wAdd x s) 64=o at*
    obtain⟨Y,hY⟩:=nxq wr.heap.size
    have a3:Hid (w.heap.size≤Y∧S<Y∧R<Y∧X<Y):=jh (by have:=g.o.size;have:=b.o.lt;have:=f.o.lt;have:=t.o.lt;omega)
    have M:=Ext.alloc wr (.cells (ints .u8 (List.replicate 64 0)).toArray 26)
    have W:Hid (Blk (wr.alloc (.cells (ints .u8 (List.replicate 64 0)).toArray 26)) Y ((fill 64 o 0).map bval) 26):=jh (by rw[fill_start,hY];exact Blk.made wr (ints .u8 (List.replicate 64 0)) 26)
    have F:=xxb f M
    have aq:=xxb b M
    have aw:=xxb t M
    have E:=xxt g M
    clear M
    go_upto_region 28 with(fail)
    change Code.wp _ _ _ _ (wr.alloc (.cells (ints .u8 (List.replicate 64 0)).toArray 26))
    rw[←hY]
    clear f b t g hY
    generalize wr.alloc (.cells (ints .u8 (List.replicate 64 0)).toArray 26)=w8 at*
    go_wp2_with fail
    go_loopw [13] (fun G wr=>∃(k:Nat),k≤64∧G=.int .i64 (k:Int)∧Blk wr R (ints .u8 (List.replicate 64 0)) 26∧Blk wr S (ints .u32 (ws s)) 133∧Blk wr X (ints .u32 (ws x)) 133∧Blk wr Y ((fill 64 o k).map bval) 26∧Ext w wr) (fun G _=>64 - (intOf G).toNat)
    case atStart=>exact⟨0,by omega,rfl,F.o,aq.o,aw.o,W.o,E.o⟩
    case round=>
     clear F aq aw W E
     obtain⟨k,P,rfl,D,A,N,T,C⟩:=hrel
     have k0:(0:Int)≤(k:Int):=Int.natCast_nonneg _
     by_cases a0:k<64
     ·have k1:(k:Int)<64:=by omega
      have c1:=zea N (i:=k / 4) (by rw[bx.o];omega)
      have c2:=zea A (i:=k / 4) (by rw[a2.o];omega)
      have f3:=T.free k
      have ay:=c7.o k a0
      have s1:=wi_add (x.getD (k / 4) 0#32) (s.getD (k / 4) 0#32)
      generalize x.getD (k / 4) 0#32=xa at*
      generalize s.getD (k / 4) 0#32=sa at*
      generalize bw:xa+sa=va at*
      obtain⟨d,hd⟩:=nxq (k / 4)
      obtain⟨r,hr⟩:=nxq (k%4)
      have q1:(k:Int) / 4=(d:Int):=by omega
      have q2:(k:Int)%4=(r:Int):=by omega
      have q3:(d:Int)<16:=by omega
      have q4:(0:Int)≤(d:Int):=by omega
      have q5:(r:Int)<4:=by omega
      have q6:(0:Int)≤(r:Int):=by omega
      rw[←hd]at c1 c2
      rw[←hr]at ay
      clear hd hr
      obtain⟨u6,c6⟩:∃u,wr.cell? ⟨Y,k,none⟩=some u:=⟨_,by rw[T.cell,zbf (by rw[zdr a1.o (by omega)];exact a0)]⟩
      obtain⟨f,b,t,W,g⟩:=jq5 D A N T C
      clear D A N T C bw
      go_wp2_with fail
      go_region
      go_wp2_with fail
      go_roundw
      case rel=>
       have hz:=word_byte va r _ ay
       refine⟨k+1,by omega,by go_num,f.o.far (by have:=a3.o;simp;omega) _,b.o.far (by have:=a3.o;simp;omega) _,t.o.far (by have:=a3.o;simp;omega) _,?_,(far_ext g.o a3.o.1).trans (Ext.drew _)⟩
       rw[←zcv a1.o a0 hz]
       exact W.o.set k _
      case measure=>simp[intOf];omega
     have V:k=64:=by omega
     subst V
     rw[fill_full a1.o]at T
     obtain⟨f,W,g⟩:=jq3 D T C
     clear D A N T C
     have ai:Hid ((Tryd.prog.info? 26).map (·.size)=some (o.map bval).length):=jh (zeb a1.o)
     have c4:Hid ((o.map bval).length=(ints .u8 (List.replicate 64 0)).length):=jh (by rw[q100,a1.o,zaa,q110])
     go_wp2_with (first|(refine slb Y W.o Tryd.underlying26 ai.o ?_)|(refine ssb R (o.map bval) f.o c4.o ai.o (zac _) ?_;intro w9 c8 c5))
     refine bodyPost_ret (zat rfl _ R _ _ _ _ rfl c8 Tryd.underlying26 ai.o) rfl ?_
     exact⟨by rw[bz.o],zab g.o c5 (by have:=Q.o;have:=O.o;omega)⟩
theorem Tryd.arr97:(Tryd.prog.info? 97).map (·.size)=some 12:=by kernel_rfl
theorem nonce_size {l:List UInt8}(h:l.length=12):(Tryd.prog.info? 97).map (·.size)=some (l.map bval).length:=by rw[q100,h];exact Tryd.arr97
theorem ofInt32_mod(c z:Int):BitVec.ofInt 32 (c%4294967296+z)=BitVec.ofInt 32 (c+z):=by
 apply BitVec.eq_of_toInt_eq
 rw[BitVec.toInt_ofInt,BitVec.toInt_ofInt]
 unfold Int.bmod
 have a:((2^32:Nat):Int)=4294967296:=rfl
 rw[a,Int.emod_add_emod]
theorem chaByte_at(key:List UInt8)(c:Int)(a b:List UInt8)(k:Nat)(h:b=chaBlock key (BitVec.ofInt 32 (c+((k / 64:Nat):Int))) a):b.getD (k%64) 0=chaByte key c a k:=by
 rw[h]
 rfl
theorem rTurn_any(f nb b:List UInt8)(bv:Value)(c:Int)(w:World)(G:f.length=32)(W:nb.length=12)(t:Row1 w bv (b.map bval))(aj:b.length≤1099511627776)(af: -9223372036854775808≤c)(a3:c≤9223372036854775807):
  Calls Tryd.prog 61 #[.agg (f.map bval).toArray,.int .i64 c,.agg (nb.map bval).toArray,bv] w fun e w'=>∃x,e=.returned x∧w'.ownsRow w.heap.size 5 1 x b.length ((chaTurn f c nb b).map bval)∧Below w.heap.size w w':=by
 obtain⟨i0,ad,a2,a8,am⟩:=info_parts Tryd.info5
 obtain⟨ba,b2,b1,aq,aw,b5⟩:=jq6 ad a2 a8 am G W
 obtain⟨I,HR,HB,P⟩:=jq4 aj t (boxes2 w (f.map bval) (nb.map bval) 23 97) (and_mask32 c af a3)
 have ar:Hid ((Tryd.prog.info? 23).map (·.size)=some (f.map bval).length):=jh (zag G)
 have b0:Hid ((Tryd.prog.info? 97).map (·.size)=some (nb.map bval).length):=jh (nonce_size W)
 have aa:=jh (fun z=>ofInt32_mod c z)
 obtain⟨v,ac⟩:=nxq (c%4294967296)
 have al:Hid (0≤v∧v<4294967296):=jh (by omega)
 rw[←ac]at P aa
 clear G W aj t ad a2 a8 am af a3 ac
 go_enter Tryd.func61,Tryd.ntmps61
 go_upto_region 1 with(fail)
 obtain⟨j,i,l⟩:=HB.o
 change Code.wp _ _ _ _ ((w.alloc (.cells (f.map bval).toArray 23)).alloc (.cells (nb.map bval).toArray 97))
 generalize (w.alloc (.cells (f.map bval).toArray 23)).alloc (.cells (nb.map bval).toArray 97)=u at*
 obtain⟨K,hK⟩:=nxq w.heap.size
 have O:Hid (w.heap.size≤K∧K≤w.heap.size):=jh (by omega)
 rw[←hK]at j i⊢
 obtain⟨j,i⟩:=jq2 j i
 have l:Hid (Ext w u):=jh l
 have ai:=jh (HR.o.below l.o)
 have T:Hid (u.ownsRow u.heap.size 5 1 (.slice none 0 0) 0 []):=jh (World.ownsRow_nil _ _ _ _)
 have H:Hid ((b.map bval).length=b.length):=jh (q100 _)
 clear hK HB HR
 go_upto_region 2 with(at_builtin;refine zad rfl _ _ 24 rfl u.heap.size 5 i0 (.int .u8 0) 1 Tryd.underlying24 ba.o b2.o b1.o aq.o rfl _ 0 _ rfl T.o rfl ai.o (zac _) (by have:=I.o;rw[H.o];unfold maxLen;omega) (by have:=I.o;rw[H.o];omega) (q101 _) ?_;intro x1 s ab ae)
 have m:Hid (s.ownsRow (K+2) 5 1 x1 b.length (b.map bval)):=jh (by have h:=ab;rw[H.o,q111,q116]at h;exact h.mono (by have:=i.o.lt;omega))
 have V:Hid (Ext u s):=jh (zay (Ext.refl u) T.o (q101 _) ae)
 obtain⟨j,i⟩:=xq2 j i V.o
 have l:=xxt l V.o
 obtain⟨E,cx,a9,_⟩:=id (Row1.of_own m.o)
 rw[H.o]at a9
 subst a9
 clear ab ae V T ai H
 have ao:=P.o
 go_upto_region 3 with(fail)
 clear ao P
 obtain⟨M,L⟩:=nxq s.heap.size
 have a1:Hid (K+1<M):=jh (by have:=i.o.lt;omega)
 have Z:=Ext.alloc s (.cells (ints .u8 (List.replicate 64 0)).toArray 26)
 have a4:Hid (∀g,E=some ⟨g,0,none⟩→g<M):=jh (fun g U=>by subst U;rw[L];exact(m.o.lt g rfl).2)
 have q:Hid (Blk (s.alloc (.cells (ints .u8 (List.replicate 64 0)).toArray 26)) M ((List.replicate 64 (0:UInt8)).map bval) 26):=jh (by
  have e:(List.replicate 64 (0:UInt8)).map bval=ints .u8 (List.replicate 64 0):=by rw[List.map_replicate];unfold ints;rw[List.map_replicate];rfl
  rw[e,L]
  exact Blk.made s (ints .u8 (List.replicate 64 0)) 26)
 obtain⟨j,i⟩:=xq2 j i Z
 have m:=jh (m.o.alloc (.cells (ints .u8 (List.replicate 64 0)).toArray 26))
 have l:=xxt l Z
 clear Z
 go_upto_region 4 with(fail)
 change Code.wp _ _ _ _ (s.alloc (.cells (ints .u8 (List.replicate 64 0)).toArray 26))
 rw[←L]
 clear L
 generalize s.alloc (.cells (ints .u8 (List.replicate 64 0)).toArray 26)=w2 at*
 go_wp2_with fail
 go_loopw [12] (fun F wr=>∃(k:Nat) (A:List UInt8),k≤b.length∧F=.int .i64 (k:Int)∧A.length=64∧(k%64≠0→A=chaBlock f (BitVec.ofInt 32 (c+((k / 64:Nat):Int))) nb)∧wr.ownsRow (K+2) 5 1 (.slice E b.length cx) b.length ((chaTo f c nb b k).map bval)∧Blk wr K (f.map bval) 23∧Blk wr (K+1) (nb.map bval) 97∧Blk wr M (A.map bval) 26∧Ext w wr) (fun F _=>b.length - (intOf F).toNat)
 case atStart=>exact⟨0,_,by omega,rfl,by simp,fun h=>absurd rfl h,m.o,j.o,i.o,q.o,l.o⟩
 case round=>
  clear m j i q l
  obtain⟨k,A,G,rfl,a5,ah,n,D,C,B,J⟩:=hrel
  have k0:(0:Int)≤(k:Int):=Int.natCast_nonneg _
  obtain⟨ag,Q,m,j,i,q⟩:=jq6 ah a5 n D C B
  have l:=jh J
  clear ah a5 n D C B J
  by_cases b8:k<b.length
  ·have k1:(k:Int)<(b.length:Int):=by omega
   go_upto_if 25 with(fail)
   go_cut [12]from 23 to 32 (fun F wc=>∃(p:List UInt8),F=.int .i64 (k:Int)∧p.length=64∧p=chaBlock f (BitVec.ofInt 32 (c+((k / 64:Nat):Int))) nb∧wc.ownsRow (K+2) 5 1 (.slice E b.length cx) b.length ((chaTo f c nb b k).map bval)∧Blk wc K (f.map bval) 23∧Blk wc (K+1) (nb.map bval) 97∧Blk wc M (p.map bval) 26∧Ext w wc)
   case first=>
    by_cases Y:k%64=0
    ·have q0:(k:Int)%64=0:=by omega
     obtain⟨d,hd⟩:=nxq (k / 64)
     have q1:(k:Int) / 64=(d:Int):=by omega
     have q2:(0:Int)≤(d:Int):=by omega
     have q3:v+(d:Int)≤9223372036854775807:=by have:=al.o;have:=I.o;omega
     have q4: -9223372036854775808≤v+(d:Int):=by have:=al.o;omega
     have q5:(d:Int)≤9223372036854775807:=by have:=I.o;omega
     have q6: -9223372036854775808≤(d:Int):=by omega
     obtain⟨o,n⟩:=nxq (chaBlock f (BitVec.ofInt 32 (c+((k / 64:Nat):Int))) nb)
     have a7:chaBlock f (BitVec.ofInt 32 (v+(d:Int))) nb=o:=by rw[n,hd,aa.o]
     have X:=rBlock_any f nb (v+(d:Int)) wr aw.o b5.o q4 q3
     rw[a7]at X
     obtain⟨ak,ap⟩:=jq2 X n
     have S:Hid (o.length=64):=jh (by rw[n];exact chaBlock_length _ _ _)
     clear n a7 X
     clear hd Y
     go_wp2_with (first|(refine slb K j.o Tryd.underlying23 ar.o ?_)|(refine slb (K+1) i.o Tryd.underlying97 b0.o ?_))
     refine ak.o.mono ?_
     rintro e w5 ⟨rfl,t⟩
     have m:=jh (zbi m.o t)
     obtain⟨j,i,q⟩:=xq3 j i q t
     have l:=xxt l t
     have b3:Hid ((Tryd.prog.info? 26).map (·.size)=some (o.map bval).length):=jh (zeb S.o)
     have b6:Hid ((o.map bval).length=(A.map bval).length):=jh (by rw[q100,q100,S.o,Q.o])
     clear t ak
     go_wp2_with (refine ssb M (o.map bval) q.o b6.o b3.o (zac _) ?_;intro w6 au N)
     go_meet
     refine⟨o,rfl,S.o,ap.o,m.o.kept N (Or.inr (fun e=>?_)),j.o.grown N (fun e=>by have h:=Option.some.inj e;have:=a1.o;omega),i.o.grown N (fun e=>by have h:=Option.some.inj e;have:=a1.o;omega),au,zab l.o N (by have:=a1.o;have:=O.o;omega)⟩
     cases E with
     |none=>cases e
     |some a=>
      have e2:a.block=M:=Option.some.inj e
      obtain⟨g,bb,y,_⟩:=m.o.form (by omega)
      have U:a=⟨g,0,none⟩:=by
       simp only[Value.slice.injEq,Option.some.injEq]at y
       exact y.1
      subst U
      have:=a4.o g rfl
      have e3:g=M:=e2
      omega
    have q0:((k:Int)%64==0)=false:=by simp;omega
    go_wp2_with fail
    go_meet
    exact⟨A,rfl,Q.o,ag.o Y,m.o,j.o,i.o,q.o,l.o⟩
   case rest=>
    obtain⟨p,rfl,a0,R,n,D,C,B,J⟩:=hcut
    clear m j i q l ag Q
    obtain⟨g,bb,y,bc,az⟩:=n.form (by omega)
    have b4:E=some ⟨g,0,none⟩:=by
     simp only[Value.slice.injEq]at y
     exact y.1
    subst b4
    have ay:=jh (a4.o g rfl)
    have c1:=n.cellAt k (by omega)
    have f1:=n.frozenAt k
    have hx:(chaTo f c nb b k).getD k 0=b.getD k 0:=by rw[chaTo_getD _ _ _ _ k G,if_neg (by omega)]
    rw[zbf (by rw[chaTo_length];exact b8),hx]at c1
    have c2:=B.cell (k%64)
    rw[zbf (by rw[a0];omega)]at c2
    have a6:=chaByte_at f c nb p k R
    have x1:=xor_u8 (b.getD k 0) (p.getD (k%64) 0)
    have HS:=jh (show ((chaTo f c nb b k).map bval).set k (bval (b.getD k 0^^^p.getD (k%64) 0))=(chaTo f c nb b (k+1)).map bval from by rw[←List.map_set,a6];rfl)
    obtain⟨b9,an,b7,j,i,q⟩:=jq6 (n.stored k (bval (b.getD k 0^^^p.getD (k%64) 0))) R a0 D C B
    have l:=jh J
    generalize hz:b.getD k 0^^^p.getD (k%64) 0=z at*
    generalize b.getD k 0=y1 at*
    generalize p.getD (k%64) 0=y2 at*
    obtain⟨r,hr⟩:=nxq (k%64)
    have q1:(k:Int)%64=(r:Int):=by omega
    have q2:(0:Int)≤(r:Int):=by omega
    have q3:(r:Int)<64:=by omega
    rw[←hr]at c2
    clear R a0 D C B J a6 hx hz hr n y az
    go_wp2_with fail
    go_region
    have bd:(k:Int)+1≤9223372036854775807:=by have:=I.o;omega
    go_wp2_with fail
    go_roundw
    case rel=>
     refine⟨k+1,p,by omega,by go_num,b7.o,fun Y=>?_,?_,j.o.far (by simp;omega) _,i.o.far (by simp;omega) _,q.o.far (by have:=ay.o;simp;omega) _,Ext.trans (b:=wc.setCell ⟨g,k,none⟩ (bval z)) (Below.setCell l.o (by have:=O.o;simp;omega) _) (Ext.drew _)⟩
     ·rw[an.o]
      congr 2
      omega
     rw[←HS.o]
     exact b9.o.1
    case measure=>
     simp[intOf];omega
  have av:k=b.length:=by omega
  subst av
  rw[chaTo_full]at m
  have be:¬(b.length:Int)<(b.length:Int):=by omega
  go_wp2_with fail
  go_ret
  exact⟨_,rfl,m.o.mono (by have:=O.o;omega),l.o⟩
def sumI(f:Nat→Int):Nat→Int
 |0=>0
 |n+1=>sumI f n+f n
theorem sumI_congr {f g:Nat→Int}:∀n,(∀i,i<n→f i=g i)→sumI f n=sumI g n
 |0,_=>rfl
 |n+1,h=>by simp only[sumI,sumI_congr n (fun i a=>h i (by omega)),h n (by omega)]
theorem sumI_add(f g:Nat→Int):∀n,sumI (fun i=>f i+g i) n=sumI f n+sumI g n
 |0=>rfl
 |n+1=>by simp only[sumI,sumI_add f g n];omega
theorem sumI_mul(c:Int)(f:Nat→Int):∀n,sumI (fun i=>c*f i) n=c*sumI f n
 |0=>by simp[sumI]
 |n+1=>by simp only[sumI,sumI_mul c f n,Int.mul_add]
theorem sumI_swap(f:Nat→Nat→Int)(m:Nat):∀n,sumI (fun i=>sumI (fun j=>f i j) m) n=sumI (fun j=>sumI (fun i=>f i j) n) m
 |0=>by
  have:∀m,sumI (fun _=>(0:Int)) m=0:=fun m=>by induction m with
   |zero=>rfl
   |succ m a=>simp only[sumI,a];rfl
  simp only[sumI]
  exact(this m).symm
 |n+1=>by
  simp only[sumI]
  rw[sumI_swap f m n,←sumI_add]
theorem gV_take_sum(B:Int)(zs:List Int):∀n,n≤zs.length→gV B (zs.take n)=sumI (fun i=>zs.getD i 0*B^i) n
 |0,_=>by simp[sumI,gV]
 |n+1,h=>by rw[zby B zs n (by omega),gV_take_sum B zs n (by omega)];rfl
theorem gV_sum(B:Int)(zs:List Int):gV B zs=sumI (fun i=>zs.getD i 0*B^i) zs.length:=by
 have:=gV_take_sum B zs zs.length (q101 _)
 rwa [q125]at this
def tCo(r:List Int)(i j:Nat):Int:=if j≤i then r.getD (i - j) 0 else 320*r.getD (i+17 - j) 0
def tRun(h r:List Int)(i:Nat):Nat→Int
 |0=>0
 |j+1=>tRun h r i j+h.getD j 0*tCo r i j
theorem tRun_sum(h r:List Int)(i:Nat):∀n,tRun h r i n=sumI (fun j=>h.getD j 0*tCo r i j) n
 |0=>rfl
 |n+1=>by simp only[tRun,sumI,tRun_sum h r i n]
def tList(h r:List Int):Nat→List Int
 |0=>List.replicate 17 0
 |k+1=>(tList h r k).set k (tRun h r k 17)
theorem zdt(h r:List Int):∀k,(tList h r k).length=17
 |0=>by simp[tList]
 |k+1=>by simp[tList,zdt h r k]
theorem tList_getD(h r:List Int):∀k,k≤17→∀i,(tList h r k).getD i 0=if i<k then tRun h r i 17 else 0
 |0,_,i=>by
  rw[if_neg (by omega)]
  simp only[tList]
  rcases q108 i 17 with a|a
  ·rw[getD_eq (by simp;exact a),List.getElem_replicate]
  exact zee (by simp;exact a)
 |k+1,hk,i=>by
  rw[tList]
  by_cases e:i=k
  ·subst e
   rw[zaj (by rw[zdt];omega),if_pos (by omega)]
  rw[zae (by omega),tList_getD h r k (by omega) i]
  by_cases h1:i<k
  ·rw[if_pos h1,if_pos (by omega)]
  rw[if_neg h1,if_neg (by omega)]
theorem tCo_val(r:List Int)(j:Nat)(a:j<17):∃q,sumI (fun i=>tCo r i j*256^i) 17=256^j*sumI (fun k=>r.getD k 0*256^k) 17+(pQ:Int)*q:=by
 unfold pQ
 rcases(by omega:j=0∨j=1∨j=2∨j=3∨j=4∨j=5∨j=6∨j=7∨j=8∨j=9∨j=10∨j=11∨j=12∨j=13∨j=14∨j=15∨j=16)with rfl|rfl|rfl|rfl|rfl|rfl|rfl|rfl|rfl|rfl|rfl|rfl|rfl|rfl|rfl|rfl|rfl
 ·exact⟨0,by simp only[sumI,tCo,Nat.reduceLeDiff,Nat.reduceSub,Nat.reduceAdd,if_true,if_false,reduceIte,Nat.reducePow,Int.reducePow];omega⟩
 ·exact⟨-(64*(r.getD 16 0*1)),by simp only[sumI,tCo,Nat.reduceLeDiff,Nat.reduceSub,Nat.reduceAdd,if_true,if_false,reduceIte,Nat.reducePow,Int.reducePow];omega⟩
 ·exact⟨-(64*(r.getD 15 0*1+r.getD 16 0*256)),by simp only[sumI,tCo,Nat.reduceLeDiff,Nat.reduceSub,Nat.reduceAdd,if_true,if_false,reduceIte,Nat.reducePow,Int.reducePow];omega⟩
 ·exact⟨-(64*(r.getD 14 0*1+r.getD 15 0*256+r.getD 16 0*65536)),by simp only[sumI,tCo,Nat.reduceLeDiff,Nat.reduceSub,Nat.reduceAdd,if_true,if_false,reduceIte,Nat.reducePow,Int.reducePow];omega⟩
 ·exact⟨-(64*(r.getD 13 0*1+r.getD 14 0*256+r.getD 15 0*65536+r.getD 16 0*16777216)),by simp only[sumI,tCo,Nat.reduceLeDiff,Nat.reduceSub,Nat.reduceAdd,if_true,if_false,reduceIte,Nat.reducePow,Int.reducePow];omega⟩
 ·exact⟨-(64*(r.getD 12 0*1+r.getD 13 0*256+r.getD 14 0*65536+r.getD 15 0*16777216+r.getD 16 0*4294967296)),by simp only[sumI,tCo,Nat.reduceLeDiff,Nat.reduceSub,Nat.reduceAdd,if_true,if_false,reduceIte,Nat.reducePow,Int.reducePow];omega⟩
 ·exact⟨-(64*(r.getD 11 0*1+r.getD 12 0*256+r.getD 13 0*65536+r.getD 14 0*16777216+r.getD 15 0*4294967296+r.getD 16 0*1099511627776)),by simp only[sumI,tCo,Nat.reduceLeDiff,Nat.reduceSub,Nat.reduceAdd,if_true,if_false,reduceIte,Nat.reducePow,Int.reducePow];omega⟩
 ·exact⟨-(64*(r.getD 10 0*1+r.getD 11 0*256+r.getD 12 0*65536+r.getD 13 0*16777216+r.getD 14 0*4294967296+r.getD 15 0*1099511627776+r.getD 16 0*281474976710656)),by simp only[sumI,tCo,Nat.reduceLeDiff,Nat.reduceSub,Nat.reduceAdd,if_true,if_false,reduceIte,Nat.reducePow,Int.reducePow];omega⟩
 ·exact⟨-(64*(r.getD 9 0*1+r.getD 10 0*256+r.getD 11 0*65536+r.getD 12 0*16777216+r.getD 13 0*4294967296+r.getD 14 0*1099511627776+r.getD 15 0*281474976710656+r.getD 16 0*72057594037927936)),by simp only[sumI,tCo,Nat.reduceLeDiff,Nat.reduceSub,Nat.reduceAdd,if_true,if_false,reduceIte,Nat.reducePow,Int.reducePow];omega⟩
 ·exact⟨-(64*(r.getD 8 0*1+r.getD 9 0*256+r.getD 10 0*65536+r.getD 11 0*16777216+r.getD 12 0*4294967296+r.getD 13 0*1099511627776+r.getD 14 0*281474976710656+r.getD 15 0*72057594037927936+r.getD 16 0*18446744073709551616)),by simp only[sumI,tCo,Nat.reduceLeDiff,Nat.reduceSub,Nat.reduceAdd,if_true,if_false,reduceIte,Nat.reducePow,Int.reducePow];omega⟩
 ·exact⟨-(64*(r.getD 7 0*1+r.getD 8 0*256+r.getD 9 0*65536+r.getD 10 0*16777216+r.getD 11 0*4294967296+r.getD 12 0*1099511627776+r.getD 13 0*281474976710656+r.getD 14 0*72057594037927936+r.getD 15 0*18446744073709551616+r.getD 16 0*4722366482869645213696)),by simp only[sumI,tCo,Nat.reduceLeDiff,Nat.reduceSub,Nat.reduceAdd,if_true,if_false,reduceIte,Nat.reducePow,Int.reducePow];omega⟩
 ·exact⟨-(64*(r.getD 6 0*1+r.getD 7 0*256+r.getD 8 0*65536+r.getD 9 0*16777216+r.getD 10 0*4294967296+r.getD 11 0*1099511627776+r.getD 12 0*281474976710656+r.getD 13 0*72057594037927936+r.getD 14 0*18446744073709551616+r.getD 15 0*4722366482869645213696+r.getD 16 0*1208925819614629174706176)),by simp only[sumI,tCo,Nat.reduceLeDiff,Nat.reduceSub,Nat.reduceAdd,if_true,if_false,reduceIte,Nat.reducePow,Int.reducePow];omega⟩
 ·exact⟨-(64*(r.getD 5 0*1+r.getD 6 0*256+r.getD 7 0*65536+r.getD 8 0*16777216+r.getD 9 0*4294967296+r.getD 10 0*1099511627776+r.getD 11 0*281474976710656+r.getD 12 0*72057594037927936+r.getD 13 0*18446744073709551616+r.getD 14 0*4722366482869645213696+r.getD 15 0*1208925819614629174706176+r.getD 16 0*309485009821345068724781056)),by simp only[sumI,tCo,Nat.reduceLeDiff,Nat.reduceSub,Nat.reduceAdd,if_true,if_false,reduceIte,Nat.reducePow,Int.reducePow];omega⟩
 ·exact⟨-(64*(r.getD 4 0*1+r.getD 5 0*256+r.getD 6 0*65536+r.getD 7 0*16777216+r.getD 8 0*4294967296+r.getD 9 0*1099511627776+r.getD 10 0*281474976710656+r.getD 11 0*72057594037927936+r.getD 12 0*18446744073709551616+r.getD 13 0*4722366482869645213696+r.getD 14 0*1208925819614629174706176+r.getD 15 0*309485009821345068724781056+r.getD 16 0*79228162514264337593543950336)),by simp only[sumI,tCo,Nat.reduceLeDiff,Nat.reduceSub,Nat.reduceAdd,if_true,if_false,reduceIte,Nat.reducePow,Int.reducePow];omega⟩
 ·exact⟨-(64*(r.getD 3 0*1+r.getD 4 0*256+r.getD 5 0*65536+r.getD 6 0*16777216+r.getD 7 0*4294967296+r.getD 8 0*1099511627776+r.getD 9 0*281474976710656+r.getD 10 0*72057594037927936+r.getD 11 0*18446744073709551616+r.getD 12 0*4722366482869645213696+r.getD 13 0*1208925819614629174706176+r.getD 14 0*309485009821345068724781056+r.getD 15 0*79228162514264337593543950336+r.getD 16 0*20282409603651670423947251286016)),by simp only[sumI,tCo,Nat.reduceLeDiff,Nat.reduceSub,Nat.reduceAdd,if_true,if_false,reduceIte,Nat.reducePow,Int.reducePow];omega⟩
 ·exact⟨-(64*(r.getD 2 0*1+r.getD 3 0*256+r.getD 4 0*65536+r.getD 5 0*16777216+r.getD 6 0*4294967296+r.getD 7 0*1099511627776+r.getD 8 0*281474976710656+r.getD 9 0*72057594037927936+r.getD 10 0*18446744073709551616+r.getD 11 0*4722366482869645213696+r.getD 12 0*1208925819614629174706176+r.getD 13 0*309485009821345068724781056+r.getD 14 0*79228162514264337593543950336+r.getD 15 0*20282409603651670423947251286016+r.getD 16 0*5192296858534827628530496329220096)),by simp only[sumI,tCo,Nat.reduceLeDiff,Nat.reduceSub,Nat.reduceAdd,if_true,if_false,reduceIte,Nat.reducePow,Int.reducePow];omega⟩
 exact⟨-(64*(r.getD 1 0*1+r.getD 2 0*256+r.getD 3 0*65536+r.getD 4 0*16777216+r.getD 5 0*4294967296+r.getD 6 0*1099511627776+r.getD 7 0*281474976710656+r.getD 8 0*72057594037927936+r.getD 9 0*18446744073709551616+r.getD 10 0*4722366482869645213696+r.getD 11 0*1208925819614629174706176+r.getD 12 0*309485009821345068724781056+r.getD 13 0*79228162514264337593543950336+r.getD 14 0*20282409603651670423947251286016+r.getD 15 0*5192296858534827628530496329220096+r.getD 16 0*1329227995784915872903807060280344576)),by simp only[sumI,tCo,Nat.reduceLeDiff,Nat.reduceSub,Nat.reduceAdd,if_true,if_false,reduceIte,Nat.reducePow,Int.reducePow];omega⟩
theorem sumI_part(r h:List Int):∀n,n≤17→∃q,sumI (fun j=>h.getD j 0*sumI (fun i=>tCo r i j*256^i) 17) n=sumI (fun j=>h.getD j 0*256^j) n*sumI (fun k=>r.getD k 0*256^k) 17+(pQ:Int)*q
 |0,_=>⟨0,by simp[sumI]⟩
 |n+1,hn=>by
  obtain⟨q,a⟩:=sumI_part r h n (by omega)
  obtain⟨c,b⟩:=tCo_val r n (by omega)
  refine⟨q+h.getD n 0*c,?_⟩
  simp only[sumI]at a b⊢
  rw[a,b]
  grind
theorem tList_val {h r:List Int}(e:h.length=17)(l:r.length=17):gV 256 (tList h r 17)%(pQ:Int)=gV 256 h*gV 256 r%(pQ:Int):=by
 have c:gV 256 (tList h r 17)=sumI (fun i=>sumI (fun j=>h.getD j 0*(tCo r i j*256^i)) 17) 17:=by
  rw[gV_sum,zdt]
  refine sumI_congr 17 (fun i k=>?_)
  rw[tList_getD h r 17 (q101 _) i,if_pos k,tRun_sum,Int.mul_comm,←sumI_mul]
  refine sumI_congr 17 (fun j d=>?_)
  rw[Int.mul_comm,Int.mul_assoc]
 rw[sumI_swap]at c
 have f:gV 256 (tList h r 17)=sumI (fun j=>h.getD j 0*sumI (fun i=>tCo r i j*256^i) 17) 17:=by
  rw[c]
  refine sumI_congr 17 (fun j d=>?_)
  rw[sumI_mul]
 obtain⟨q,g⟩:=sumI_part r h 17 (q101 _)
 have b:=gV_sum 256 h
 have a:=gV_sum 256 r
 rw[e]at b
 rw[l]at a
 rw[f,g,←b,←a,Int.add_mul_emod_self_left]
theorem tRun_bound {h r:List Int}(b:∀i,0≤h.getD i 0∧h.getD i 0≤1024)(a:∀i,0≤r.getD i 0∧r.getD i 0≤255)(i:Nat):∀j,0≤tRun h r i j∧tRun h r i j≤83558400*j
 |0=>by simp[tRun]
 |j+1=>by
  obtain⟨f,e⟩:=tRun_bound b a i j
  have h1:=b j
  have h2:0≤tCo r i j∧tCo r i j≤81600:=by
   unfold tCo
   split
   ·have:=a (i - j)
    omega
   have:=a (i+17 - j)
   omega
  have c:0≤h.getD j 0*tCo r i j:=q130 h1.1 h2.1
  have d:h.getD j 0*tCo r i j≤1024*81600:=Int.mul_le_mul h1.2 h2.2 h2.1 (by omega)
  rw[tRun]
  constructor<;>omega
def wRun(h:List Int):Nat→List Int×Int
 |0=>(h,5)
 |i+1=>((wRun h i).1.set i (((wRun h i).2+(wRun h i).1.getD i 0)%256),((wRun h i).2+(wRun h i).1.getD i 0) / 256)
theorem wRun_length(h:List Int):∀i,(wRun h i).1.length=h.length
 |0=>rfl
 |i+1=>by simp[wRun,wRun_length h i]
theorem wRun_far(h:List Int):∀i j,i≤j→(wRun h i).1.getD j 0=h.getD j 0
 |0,_,_=>rfl
 |i+1,j,hj=>by
  rw[wRun,zae (by omega),wRun_far h i j (by omega)]
theorem wRun_small(h:List Int)(a:h.length=17):∀i,i≤17→∀j,j<i→0≤(wRun h i).1.getD j 0∧(wRun h i).1.getD j 0<256
 |0,_,j,hj=>by omega
 |i+1,hi,j,hj=>by
  rw[wRun]
  by_cases e:j=i
  ·subst e
   rw[zaj (by rw[wRun_length];omega)]
   omega
  rw[zae (by omega)]
  exact wRun_small h a i (by omega) j (by omega)
theorem wRun_val(h:List Int)(b:h.length=17):∀i,i≤17→gV 256 (wRun h i).1+(wRun h i).2*256^i=gV 256 h+5
 |0,_=>by simp[wRun]
 |i+1,hi=>by
  have a:=wRun_val h b i (by omega)
  rw[wRun,gV_set _ _ _ _ (by rw[wRun_length];omega),←a,q114]
  generalize (wRun h i).2=u
  generalize (wRun h i).1.getD i 0=z
  generalize gV 256 (wRun h i).1=V
  generalize c:(256:Int)^i=B
  have e:(u+z)=256*((u+z) / 256)+(u+z)%256:=(Int.mul_ediv_add_emod _ _).symm
  generalize (u+z) / 256=q at*
  generalize (u+z)%256=r at*
  have:u=256*q+r - z:=by omega
  subst this
  grind
theorem wRun_u(h:List Int)(a:∀i,0≤h.getD i 0∧h.getD i 0<256):∀i,0≤(wRun h i).2∧(wRun h i).2≤5
 |0=>by simp[wRun]
 |i+1=>by
  have b:=wRun_u h a i
  have:=a i
  rw[wRun,wRun_far h i i (q101 _)]
  show 0≤((wRun h i).2+h.getD i 0) / 256∧((wRun h i).2+h.getD i 0) / 256≤5
  omega
theorem Can17.digit {h:List Int}(c:Can17 h)(i:Nat):0≤h.getD i 0∧h.getD i 0<256:=by
 obtain⟨d,h1,h2⟩:=c
 rcases q108 i 16 with a|a
 ·exact h1 i a
 rcases q108 i 17 with b|b
 ·have:i=16:=by omega
  subst this
  omega
 rw[zee (by omega)]
 omega
theorem Can17.range {h:List Int}(a:Can17 h):0≤gV 256 h∧gV 256 h<two130:=by
 have c:=digits16 a.1 a.2.1
 have b:=gV_17 a.1
 have:=a.2.2
 unfold two130
 omega
def wOut(h:List Int):List Int:=if 4≤(wRun h 17).1.getD 16 0 then(wRun h 17).1.set 16 ((wRun h 17).1.getD 16 0 - 4)else h
theorem wOut_val {h:List Int}(c:Can17 h):(wOut h).length=17∧(∀i,i<17→0≤(wOut h).getD i 0∧(wOut h).getD i 0<256)∧gV 256 (wOut h)=gV 256 h%(pQ:Int):=by
 have d:=c.1
 have r:=c.range
 have b:(wRun h 17).1.length=17:=by rw[wRun_length,d]
 have a:=wRun_small h d 17 (q101 _)
 have q:=wRun_val h d 17 (q101 _)
 have s:=wRun_u h c.digit 17
 have k:=gV_range (B:=256) (by omega) (zs:=(wRun h 17).1) (fun i g=>a i (by omega))
 have y:=digits16 b (fun j t=>a j (by omega))
 have v:=gV_17 b
 have f:(256:Int)^17=87112285931760246646623899502532662132736:=by decide+kernel
 rw[f]at q
 have x:=a 16 (by omega)
 unfold two130 at r
 unfold wOut pQ
 by_cases l:4≤(wRun h 17).1.getD 16 0
 ·rw[if_pos l]
  refine⟨by simp[b],fun i g=>?_,?_⟩
  ·by_cases e:i=16
   ·subst e
    rw[zaj (by omega)]
    omega
   rw[zae (by omega)]
   exact a i g
  rw[gV_set _ _ _ _ (by omega),pow_16]
  generalize gV 256 (wRun h 17).1=W at*
  generalize gV 256 h=V at*
  generalize (wRun h 17).2=u at*
  generalize (wRun h 17).1.getD 16 0=z at*
  generalize gV 256 ((wRun h 17).1.take 16)=D at*
  clear a k f b
  have n:u=0:=by omega
  subst n
  have p:z=4:=by omega
  subst p
  have m:V%1361129467683753853853498429727072845819=V - 1361129467683753853853498429727072845819:=by
   rw[←Int.sub_emod_right,q132 (by omega) (by omega)]
  show W+(4 - 4 - 4)*340282366920938463463374607431768211456=V%1361129467683753853853498429727072845819
  rw[m]
  omega
 rw[if_neg l]
 refine⟨d,fun i g=>c.digit i,?_⟩
 generalize gV 256 (wRun h 17).1=W at*
 generalize gV 256 h=V at*
 generalize (wRun h 17).2=u at*
 generalize (wRun h 17).1.getD 16 0=z at*
 generalize gV 256 ((wRun h 17).1.take 16)=D at*
 clear a k f b
 omega
theorem and_i64_3(a:Int)(h1: -9223372036854775808≤a)(h2:a≤9223372036854775807):bits .and .i64 a 3=a%4:=by
 have h:(BitVec.ofInt 64 3).toNat=2^2 - 1:=by decide
 have key:(BitVec.ofInt 64 a &&& BitVec.ofInt 64 3).toNat=(a%((2^64:Nat):Int)).toNat%2^2:=by
  rw[BitVec.toNat_and,BitVec.toNat_ofInt,h,q124]
 show IntKind.i64.wrap ((BitVec.ofInt 64 a &&& BitVec.ofInt 64 3).toNat:Nat)=_
 rw[key,IntKind.wrap_i64]
 omega
def qN(h:List Int):Nat→List Int
 |0=>h
 |k+1=>qPass (qN h k)
theorem qN_length(h:List Int):∀k,(qN h k).length=h.length
 |0=>rfl
 |k+1=>by rw[qN,qPass_length,qN_length h k]
theorem qN_three(h:List Int):qN h 3=qThree h:=rfl
theorem qPass_le(h:List Int)(b:h.length=17) {M:Int}(l:255≤M)(a:∀i,0≤h.getD i 0∧h.getD i 0≤M):∀i,0≤(qPass h).getD i 0∧(qPass h).getD i 0≤4*M:=by
 intro i
 refine⟨qPass_nonneg h b (fun i=>(a i).1) i,?_⟩
 have d:(zam h 16).1.length=17:=by rw[zbn,b]
 have c:=qRun_small h b 16 (q101 _)
 have g:=qRun_top h a 16
 have k:=qRun_nonneg h (fun i=>(a i).1) 16
 have j:=a 16
 unfold qPass
 by_cases e:i=0
 ·subst e
  rw[zaj (by simp[d])]
  have:=c 0 (by omega)
  omega
 rw[zae (by omega)]
 by_cases f:i=16
 ·subst f
  rw[zaj (by omega)]
  omega
 rw[zae (by omega)]
 rcases q108 i 16 with h|h
 ·have:=(c i h).2
  omega
 rw[zee (by omega)]
 omega
theorem qN_le(h:List Int)(c:h.length=17)(e:∀i,0≤h.getD i 0∧h.getD i 0≤1099511627776)(k:Nat)(j:k≤3):∀i,0≤(qN h k).getD i 0∧(qN h k).getD i 0≤70368744177664:=by
 have f:(qN h 1).length=17:=by rw[qN_length,c]
 have g:(qN h 2).length=17:=by rw[qN_length,c]
 have b:=qPass_le h c (by omega) e
 have a:=qPass_le (qN h 1) f (by omega) b
 have d:=qPass_le (qN h 2) g (by omega) a
 intro i
 rcases(by omega:k=0∨k=1∨k=2∨k=3)with rfl|rfl|rfl|rfl
 ·have:=e i
  exact⟨this.1,Int.le_trans this.2 (by decide)⟩
 ·exact⟨(b i).1,Int.le_trans (b i).2 (by decide)⟩
 ·exact⟨(a i).1,Int.le_trans (a i).2 (by decide)⟩
 exact⟨(d i).1,Int.le_trans (d i).2 (by decide)⟩
theorem zbm {w:World} {S i:Nat} {l:List Int} {t:TypeId}(h:Blk w S (ints .i64 l) t)(a:i<l.length):w.cell? ⟨S,i,none⟩=some (.int .i64 (l.getD i 0)):=by
 rw[h.cell,zav a]
theorem Tryd.arr137:(Tryd.prog.info? 137).map (·.size)=some 17:=by kernel_rfl
theorem zei {l:List Int}(h:l.length=17):(Tryd.prog.info? 137).map (·.size)=some (ints .i64 l).length:=by rw[zaa,h];exact Tryd.arr137
theorem carried17_any(H:List Int)(w:World)(E:H.length=17)(L:∀i,0≤H.getD i 0∧H.getD i 0≤1099511627776):
  Calls Tryd.prog 89 #[.agg (ints .i64 H).toArray] w fun e w'=>e=.returned (.agg (ints .i64 (qThree H)).toArray)∧Below w.heap.size w w':=by
 obtain⟨I,N,J⟩:=jq3 E (qN_le H E L) (boxes2 w (ints .i64 H) (ints .i64 (List.replicate 17 0)) 137 137)
 clear E L
 go_enter Tryd.func89,Tryd.ntmps89
 go_upto_region 1 with(fail)
 obtain⟨d,c,f⟩:=J.o
 change Code.wp _ _ _ _ ((w.alloc (.cells (ints .i64 H).toArray 137)).alloc (.cells (ints .i64 (List.replicate 17 0)).toArray 137))
 generalize (w.alloc (.cells (ints .i64 H).toArray 137)).alloc (.cells (ints .i64 (List.replicate 17 0)).toArray 137)=O at*
 obtain⟨A,G⟩:=nxq w.heap.size
 have n:Hid (w.heap.size≤A):=jh (by omega)
 rw[←G]at d c⊢
 obtain⟨d,c⟩:=jq2 d c
 have f:Hid (Ext w O):=jh f
 clear G J
 go_wp2_with fail
 go_loopw [3] (fun x wr=>∃(k:Nat),k≤3∧x=.int .i64 (k:Int)∧Blk wr A (ints .i64 (qN H k)) 137∧Blk wr (A+1) (ints .i64 (List.replicate 17 0)) 137∧Ext w wr) (fun x _=>3 - (intOf x).toNat)
 case atStart=>exact⟨0,by omega,rfl,d.o,c.o,f.o⟩
 case round=>
  clear d c f
  obtain⟨k,hk,rfl,b,g,j⟩:=hrel
  have k0:(0:Int)≤(k:Int):=Int.natCast_nonneg _
  by_cases a6:k<3
  ·have k1:(k:Int)<3:=by omega
   have HQ:Hid (qN H (k+1)=qPass (qN H k)):=jh rfl
   have m:=jh (N.o k (by omega))
   have K:Hid ((qN H k).length=17):=jh (by rw[qN_length];exact I.o)
   obtain⟨d,c,f⟩:=jq3 b g j
   clear b g j
   generalize qN H k=h at*
   go_wp2_with fail
   go_loopw [4,5] (fun uv s wr=>∃(i:Nat),i≤16∧uv=.int .i64 (zam h i).2∧s=.int .i64 (i:Int)∧Blk wr A (ints .i64 (zam h i).1) 137∧Blk wr (A+1) (ints .i64 (List.replicate 17 0)) 137∧Ext w wr) (fun _ s _=>16 - (intOf s).toNat)
   case atStart=>exact⟨0,by omega,rfl,rfl,d.o,c.o,f.o⟩
   case round=>
    clear d c f
    obtain⟨i,hi,rfl,rfl,b,g,j⟩:=hrel
    have i0:(0:Int)≤(i:Int):=Int.natCast_nonneg _
    have a5:=qRun_nonneg h (fun i=>(m.o i).1) i
    have a4:=qRun_top h m.o i
    have v:(zam h i).1.length=17:=by rw[zbn];exact K.o
    obtain⟨d,c,f⟩:=jq3 b g j
    by_cases a7:i<16
    ·have i1:(i:Int)<17:=by omega
     have i2:(i:Int)<16:=by omega
     have c1:=zbm b (i:=i) (by rw[v];omega)
     have t:=b.free i
     have p:=m.o i
     have l:=qRun_far h i i (q101 _)
     have V:Hid ((zam h (i+1)).1=(zam h i).1.set i (((zam h i).2+(zam h i).1.getD i 0)%256)):=jh rfl
     have R:Hid ((zam h (i+1)).2=((zam h i).2+(zam h i).1.getD i 0) / 256):=jh rfl
     rw[←l]at p
     clear b g j l
     generalize (zam h i).1.getD i 0=z at*
     generalize (zam h i).2=u at*
     obtain⟨P,z1⟩:=p
     have M:=zcl (u+z) (by omega) (by omega)
     go_wp2_with fail
     go_roundw
     case rel=>
      refine⟨i+1,by omega,by rw[R.o],by go_num,?_,c.o.far (by simp) _,Below.setCell f.o (by have:=n.o;simp;omega) _⟩
      rw[V.o]
      exact d.o.seti i _
     case measure=>simp[intOf];omega
    have S:i=16:=by omega
    subst S
    rw[show ((16:Nat):Int)=16 from rfl]
    have W:Hid (qPass h=((zam h 16).1.set 16 (((zam h 16).2+h.getD 16 0)%4)).set 0 ((zam h 16).1.getD 0 0+5*(((zam h 16).2+h.getD 16 0) / 4))):=jh rfl
    have c1:=zbm b (i:=16) (by rw[v];omega)
    have t:=b.free 16
    have p:=m.o 16
    have l:=qRun_far h 16 16 (q101 _)
    rw[l]at c1
    have a2:=qRun_small h K.o 16 (q101 _) 0 (by omega)
    clear b g j l
    generalize a3:(zam h 16).1=D at*
    generalize (zam h 16).2=u at*
    generalize h.getD 16 0=z at*
    obtain⟨P,z1⟩:=p
    have M:=and_i64_3 (u+z) (by omega) (by omega)
    have C:Hid (Blk (wr.setCell ⟨A,16,none⟩ (.int .i64 ((u+z)%4))) A (ints .i64 (D.set 16 ((u+z)%4))) 137):=jh (d.o.seti 16 _)
    have Z:=jh (c.o.far (a:=⟨A,16,none⟩) (by simp) (.int .i64 ((u+z)%4)))
    have Y:Hid (Ext w (wr.setCell ⟨A,16,none⟩ (.int .i64 ((u+z)%4)))):=jh (Below.setCell f.o (by have:=n.o;simp;omega) _)
    go_upto_region 13 with(fail)
    clear d c f c1 t M
    generalize wr.setCell ⟨A,16,none⟩ (.int .i64 ((u+z)%4))=w5 at*
    have c1:=zbm C.o (i:=0) (by rw[q117,v];omega)
    rw[zae (by omega)]at c1
    have t:=C.o.free 0
    have F:=jh (C.o.seti 0 (D.getD 0 0+5*((u+z) / 4)))
    rw[←W.o]at F
    generalize D.getD 0 0=y at*
    obtain⟨y0,y1⟩:=a2
    go_wp2_with fail
    go_roundw
    case rel=>exact⟨k+1,by omega,by go_num,by rw[HQ.o];exact F.o,Z.o.far (by simp) _,Below.setCell Y.o (by have:=n.o;simp;omega) _⟩
    case measure=>simp[intOf];omega
  have T:k=3:=by omega
  subst T
  rw[qN_three]at b
  have q:(qThree H).length=17:=by rw[←qN_three,qN_length];exact I.o
  obtain⟨o,r⟩:=nxq (qThree H)
  rw[←r]at b q
  obtain⟨Q,d,c,f,B⟩:=jq5 r b g j (zei q)
  have X:Hid ((ints .i64 o).length=(ints .i64 (List.replicate 17 0)).length):=jh (by rw[zaa,q,zaa,q110])
  clear b g j r q
  go_wp2_with (first|(refine slb A d.o Tryd.underlying137 B.o ?_)|(refine ssb (A+1) (ints .i64 o) c.o X.o B.o (zai _ _) ?_;intro w9 a0 U))
  refine bodyPost_ret (zat rfl _ (A+1) _ _ _ _ rfl a0 Tryd.underlying137 B.o) rfl ?_
  exact⟨by rw[Q.o],zab f.o U (by have:=n.o;omega)⟩
theorem tCo_lo(r:List Int) {i j:Nat}(h:j≤i):tCo r i j=r.getD (i - j) 0:=by unfold tCo;rw[if_pos h]
theorem tCo_hi(r:List Int) {i j:Nat}(h:i<j):tCo r i j=320*r.getD (i+17 - j) 0:=by unfold tCo;rw[if_neg (by omega)]
theorem tList_le {h r:List Int}(a:∀i,0≤h.getD i 0∧h.getD i 0≤1024)(b:∀i,0≤r.getD i 0∧r.getD i 0≤255):∀i,0≤(tList h r 17).getD i 0∧(tList h r 17).getD i 0≤1420492800:=fun i=>by
 rw[tList_getD h r 17 (q101 _)]
 split
 ·have:=tRun_bound a b i 17
  omega
 omega
theorem times17_any(H R:List Int)(w:World)(hl:H.length=17)(rl:R.length=17)(hh:∀i,0≤H.getD i 0∧H.getD i 0≤1024)(hr:∀i,0≤R.getD i 0∧R.getD i 0≤255):
  Calls Tryd.prog 86 #[.agg (ints .i64 H).toArray,.agg (ints .i64 R).toArray] w fun e w'=>e=.returned (.agg (ints .i64 (qThree (tList H R 17))).toArray)∧Below w.heap.size w w':=by
 obtain⟨T,Q,s,v,HB⟩:=jq5 hl rl hh hr (boxes4 w (ints .i64 H) (ints .i64 R) (ints .i64 (List.replicate 17 0)) (ints .i64 (List.replicate 17 0)) 137 137 137 137)
 clear hl rl hh hr
 go_enter Tryd.func86,Tryd.ntmps86
 go_upto_region 2 with(fail)
 obtain⟨c,f,b,h,g⟩:=HB.o
 change Code.wp _ _ _ _ ((((w.alloc (.cells (ints .i64 H).toArray 137)).alloc (.cells (ints .i64 R).toArray 137)).alloc (.cells (ints .i64 (List.replicate 17 0)).toArray 137)).alloc (.cells (ints .i64 (List.replicate 17 0)).toArray 137))
 generalize (((w.alloc (.cells (ints .i64 H).toArray 137)).alloc (.cells (ints .i64 R).toArray 137)).alloc (.cells (ints .i64 (List.replicate 17 0)).toArray 137)).alloc (.cells (ints .i64 (List.replicate 17 0)).toArray 137)=P at*
 obtain⟨A,W⟩:=nxq w.heap.size
 have a0:Hid (w.heap.size≤A):=jh (by omega)
 rw[←W]at c f b h⊢
 obtain⟨c,f,b⟩:=jq3 c f b
 have h:Hid (Blk P (A+1+1+1) (ints .i64 (tList H R 0)) 137):=jh h
 have g:Hid (Ext w P):=jh g
 clear W HB
 go_wp2_with fail
 go_loopw [6] (fun z wr=>∃(i:Nat),i≤17∧z=.int .i64 (i:Int)∧Blk wr A (ints .i64 H) 137∧Blk wr (A+1) (ints .i64 R) 137∧Blk wr (A+1+1) (ints .i64 (List.replicate 17 0)) 137∧Blk wr (A+1+1+1) (ints .i64 (tList H R i)) 137∧Ext w wr) (fun z _=>17 - (intOf z).toNat)
 case atStart=>exact⟨0,by omega,rfl,c.o,f.o,b.o,h.o,g.o⟩
 case round=>
  clear c f b h g
  obtain⟨i,hi,rfl,O,N,a3,l,a1⟩:=hrel
  have i0:(0:Int)≤(i:Int):=Int.natCast_nonneg _
  obtain⟨c,f,b,h,g⟩:=jq5 O N a3 l a1
  clear O N a3 l a1
  by_cases ac:i<17
  ·have i1:(i:Int)<17:=by omega
   have M:=jh (fun j=>tRun_bound s.o v.o i j)
   go_wp2_with fail
   go_loopw [7,8] (fun uv k J=>∃(j:Nat),j≤i+1∧uv=.int .i64 (tRun H R i j)∧k=.int .i64 (j:Int)∧Ext wr J) (fun _ k _=>i+1 - (intOf k).toNat)
   case atStart=>exact⟨0,by omega,rfl,rfl,Ext.refl _⟩
   case round=>
    obtain⟨j,hj,rfl,rfl,p⟩:=hrel
    have K:(0:Int)≤(j:Int):=Int.natCast_nonneg _
    have a:=jh p
    obtain⟨D,r⟩:=M.o j
    clear p
    by_cases V:j≤i
    ·have t:(j:Int)≤(i:Int):=by omega
     have j2:(j:Int)<17:=by omega
     obtain⟨d,m⟩:=nxq (i - j)
     have d1:(i:Int) - (j:Int)=(d:Int):=by omega
     have d2:(0:Int)≤(d:Int):=by omega
     have d3:(d:Int)<17:=by omega
     have c1:=zbm (zal c.o a.o) (i:=j) (by rw[T.o];omega)
     have c2:=zbm (zal f.o a.o) (i:=d) (by rw[Q.o];omega)
     obtain⟨X,Y⟩:=s.o j
     obtain⟨n,F⟩:=v.o d
     have I:Hid (tRun H R i (j+1)=tRun H R i j+H.getD j 0*R.getD d 0):=jh (by rw[tRun,tCo_lo R V,m])
     have b2:tRun H R i j≤1420492800:=by omega
     generalize H.getD j 0=x at*
     generalize R.getD d 0=y at*
     generalize tRun H R i j=u at*
     have E:0≤x*y:=q130 X n
     have q:x*y≤1024*255:=Int.mul_le_mul Y F n (by omega)
     have C:x*y≤261120:=q
     have U: -9223372036854775808≤x*y:=by omega
     have w2:x*y≤9223372036854775807:=by omega
     have w3: -9223372036854775808≤u+x*y:=by omega
     have w4:u+x*y≤9223372036854775807:=by omega
     clear r m q C E
     go_wp2_with fail
     go_region
     go_wp2_with fail
     go_roundw
     case rel=>exact⟨j+1,by omega,by rw[I.o],by go_num,a.o.trans (Ext.drew _)⟩
     case measure=>simp[intOf];omega
    have G:j=i+1:=by omega
    subst G
    have t:¬(((i+1:Nat):Int)≤(i:Int)):=by omega
    rw[show ((i+1:Nat):Int)=(i:Int)+1 from by omega]at t K⊢
    clear D r
    obtain⟨c,f,b,h⟩:=xq4 c f b h a.o
    have g:=xxt g a.o
    clear a
    go_wp2_with fail
    go_loopw [7,9] (fun uv k J=>∃(j:Nat),i+1≤j∧j≤17∧uv=.int .i64 (tRun H R i j)∧k=.int .i64 (j:Int)∧Ext wr J) (fun _ k _=>17 - (intOf k).toNat)
    case atStart=>exact⟨i+1,by omega,by omega,rfl,by rw[show ((i+1:Nat):Int)=(i:Int)+1 from by omega],Ext.refl _⟩
    case round=>
     clear K t
     obtain⟨j,ad,ae,rfl,rfl,p⟩:=hrel
     have K:(0:Int)≤(j:Int):=Int.natCast_nonneg _
     have a:=jh p
     obtain⟨D,r⟩:=M.o j
     clear p
     by_cases V:j<17
     ·have t:(j:Int)<17:=by omega
      obtain⟨d,m⟩:=nxq (i+17 - j)
      have d1:(i:Int)+17 - (j:Int)=(d:Int):=by omega
      have d2:(0:Int)≤(d:Int):=by omega
      have d3:(d:Int)<17:=by omega
      have c1:=zbm (zal c.o a.o) (i:=j) (by rw[T.o];omega)
      have c2:=zbm (zal f.o a.o) (i:=d) (by rw[Q.o];omega)
      obtain⟨X,Y⟩:=s.o j
      obtain⟨n,F⟩:=v.o d
      have I:Hid (tRun H R i (j+1)=tRun H R i j+320*H.getD j 0*R.getD d 0):=jh (by rw[tRun,tCo_hi R (by omega),m,←Int.mul_assoc,Int.mul_comm (H.getD j 0) 320])
      have b2:tRun H R i j≤1420492800:=by omega
      generalize H.getD j 0=x at*
      generalize R.getD d 0=y at*
      generalize tRun H R i j=u at*
      have E:0≤320*x*y:=q130 (by omega) n
      have q:320*x*y≤327680*255:=Int.mul_le_mul (by omega) F n (by omega)
      have C:320*x*y≤83558400:=q
      have w5: -9223372036854775808≤320*x:=by omega
      have w6:320*x≤9223372036854775807:=by omega
      have U: -9223372036854775808≤320*x*y:=by omega
      have w2:320*x*y≤9223372036854775807:=by omega
      have w3: -9223372036854775808≤u+320*x*y:=by omega
      have w4:u+320*x*y≤9223372036854775807:=by omega
      clear r m q C E
      go_wp2_with fail
      go_region
      go_wp2_with fail
      go_roundw
      case rel=>exact⟨j+1,by omega,by omega,by rw[I.o],by go_num,a.o.trans (Ext.drew _)⟩
      case measure=>simp[intOf];omega
     have G:j=17:=by omega
     subst G
     rw[show ((17:Nat):Int)=17 from rfl]
     have l:=zal h.o a.o
     have tl:=zdt H R i
     have c1:=zbm l (i:=i) (by rw[tl];omega)
     have f1:=l.free i
     obtain⟨c,f,b⟩:=xq3 c f b a.o
     have h:=jh l
     have g:=xxt g a.o
     have a8:Hid (tList H R (i+1)=(tList H R i).set i (tRun H R i 17)):=jh rfl
     clear l tl D r a
     generalize tRun H R i 17=u at*
     go_wp2_with fail
     go_roundw
     case rel=>exact⟨i+1,by omega,by go_num,c.o.far (by simp;omega) _,f.o.far (by simp;omega) _,b.o.far (by simp) _,by rw[a8.o];exact h.o.seti i _,Below.setCell g.o (by have:=a0.o;simp;omega) _⟩
     case measure=>simp[intOf];omega
  have a5:i=17:=by omega
  subst a5
  obtain⟨a2,B⟩:=jq2 (tList_le s.o v.o) (zdt H R 17)
  have a4:=jh (fun w=>carried17_any (tList H R 17) w B.o (fun i=>⟨(a2.o i).1,Int.le_trans (a2.o i).2 (by decide)⟩))
  have S:Hid ((qThree (tList H R 17)).length=17):=jh (by rw[←qN_three,qN_length];exact B.o)
  obtain⟨aa,Z⟩:=jq2 (zei B.o) (zei S.o)
  generalize hx:tList H R 17=x at*
  have a9:=jh hx
  clear hx
  have a6:Hid ((ints .i64 (qThree x)).length=(ints .i64 (List.replicate 17 0)).length):=jh (by rw[zaa,S.o,zaa,q110])
  go_wp2_with (refine slb (A+1+1+1) h.o Tryd.underlying137 aa.o ?_)
  refine(a4.o wr).mono ?_
  rintro e U ⟨rfl,L⟩
  have b:=xxb b L
  have g:=xxt g L
  clear L
  go_wp2_with (refine ssb (A+1+1) (ints .i64 (qThree x)) b.o a6.o Z.o (zai _ _) ?_;intro w9 ab a7)
  refine bodyPost_ret (zat rfl _ (A+1+1) _ _ _ _ rfl ab Tryd.underlying137 Z.o) rfl ?_
  exact⟨by rw[a9.o],zab g.o a7 (by have:=a0.o;omega)⟩
theorem can17_le {h:List Int}(a:Can17 h):∀i,0≤h.getD i 0∧h.getD i 0≤1099511627776:=fun i=>by
 have:=a.digit i
 omega
theorem can17_three {h:List Int}(a:Can17 h):Can17 (qThree h)∧gV 256 (qThree h)%(pQ:Int)=gV 256 h%(pQ:Int):=
 qThree_val h a.1 (fun i=>(a.digit i).1) (by have:=a.range.2;unfold two130 at this;omega)
theorem wOut_length {h:List Int}(a:Can17 h):(wOut h).length=17:=(wOut_val a).1
theorem whole17_any(H:List Int)(w:World)(g:Can17 H):
  Calls Tryd.prog 87 #[.agg (ints .i64 H).toArray] w fun e w'=>e=.returned (.agg (ints .i64 (wOut (qThree H))).toArray)∧Below w.heap.size w w':=by
 have HL:=jh g.1
 have a0:=jh (fun w=>carried17_any H w g.1 (can17_le g))
 obtain⟨m,Z,ac,k⟩:=jq4 (can17_three g).1 (boxes2 w (ints .i64 H) (ints .i64 (List.replicate 17 0)) 137 137) (zei g.1) (zei (can17_three g).1.1)
 have a6:Hid ((ints .i64 (qThree H)).length=(ints .i64 H).length):=jh (by rw[zaa,zaa,(can17_three g).1.1,g.1])
 clear g
 go_enter Tryd.func87,Tryd.ntmps87
 go_upto_region 1 with(fail)
 obtain⟨c,b,d⟩:=Z.o
 change Code.wp _ _ _ _ ((w.alloc (.cells (ints .i64 H).toArray 137)).alloc (.cells (ints .i64 (List.replicate 17 0)).toArray 137))
 generalize (w.alloc (.cells (ints .i64 H).toArray 137)).alloc (.cells (ints .i64 (List.replicate 17 0)).toArray 137)=S at*
 obtain⟨A,R⟩:=nxq w.heap.size
 have B:Hid (w.heap.size≤A):=jh (by omega)
 rw[←R]at c b⊢
 obtain⟨c,b⟩:=jq2 c b
 have d:Hid (Ext w S):=jh d
 clear R Z
 go_wp2_with (refine slb A c.o Tryd.underlying137 ac.o ?_)
 refine(a0.o S).mono ?_
 rintro e w1 ⟨rfl,N⟩
 obtain⟨c,b⟩:=xq2 c b N
 have d:=xxt d N
 clear N a0
 generalize a2:qThree H=h at*
 have X:=jh a2
 clear a2
 go_upto_region 2 with(refine ssb A (ints .i64 h) c.o a6.o k.o (zai _ _) ?_;intro s l L)
 have b:=jh (b.o.grown L (fun e=>by have h:=Option.some.inj e;omega))
 obtain⟨d,c⟩:=jq2 (zab d.o L B.o) l
 clear l L
 obtain⟨G,K⟩:=nxq s.heap.size
 have p:Hid (A+1<G):=jh (by have:=b.o.lt;omega)
 have HZ:=jh (Blk.made s (ints .i64 (List.replicate 17 0)) 137)
 have r:=Ext.alloc s (.cells (ints .i64 (List.replicate 17 0)).toArray 137)
 have T:=xxb c r
 have a3:=xxb b r
 have W:=xxt d r
 have O:=jh d.o.size
 have a4:Hid ((ints .i64 h).length=(ints .i64 (List.replicate 17 0)).length):=jh (by rw[zaa,m.o.1,zaa,q110])
 clear r
 go_upto_region 3 with(first|(refine slb A c.o Tryd.underlying137 k.o ?_)|(refine ssb s.heap.size (ints .i64 h) HZ.o a4.o k.o (zai _ _) ?_;intro w3 f t))
 have c:=jh (T.o.grown t (fun e=>by have h:=Option.some.inj e;have:=p.o;omega))
 have b:=jh (a3.o.grown t (fun e=>by have h:=Option.some.inj e;have:=p.o;omega))
 obtain⟨d,j⟩:=jq2 (zab W.o t O.o) f
 have P:Hid (w.heap.size≤G):=jh (by rw[K];exact O.o)
 rw[←K]at j⊢
 clear f t K HZ T a3 W O
 go_wp2_with fail
 go_loopw [4,5] (fun uv y wr=>∃(i:Nat),i≤17∧uv=.int .i64 (wRun h i).2∧y=.int .i64 (i:Int)∧Blk wr A (ints .i64 h) 137∧Blk wr (A+1) (ints .i64 (List.replicate 17 0)) 137∧Blk wr G (ints .i64 (wRun h i).1) 137∧Ext w wr) (fun _ y _=>17 - (intOf y).toNat)
 case atStart=>exact⟨0,by omega,rfl,rfl,c.o,b.o,j.o,d.o⟩
 case round=>
  clear c b j d
  obtain⟨i,hi,rfl,rfl,x,l,f,v⟩:=hrel
  have i0:(0:Int)≤(i:Int):=Int.natCast_nonneg _
  have C:(wRun h i).1.length=17:=by rw[wRun_length];exact m.o.1
  obtain⟨a9,a5⟩:=wRun_u h m.o.digit i
  obtain⟨c,b,j,d⟩:=jq4 x l f v
  by_cases ai:i<17
  ·have i1:(i:Int)<17:=by omega
   have c1:=zbm f (i:=i) (by rw[C];omega)
   have f1:=f.free i
   have V:=m.o.digit i
   have U:=wRun_far h i i (q101 _)
   have aa:Hid ((wRun h (i+1)).1=(wRun h i).1.set i (((wRun h i).2+(wRun h i).1.getD i 0)%256)):=jh rfl
   have a7:Hid ((wRun h (i+1)).2=((wRun h i).2+(wRun h i).1.getD i 0) / 256):=jh rfl
   rw[←U]at V
   clear x l f v U
   generalize (wRun h i).1.getD i 0=z at*
   generalize (wRun h i).2=u at*
   obtain⟨z0,z1⟩:=V
   have a1:=zcl (u+z) (by omega) (by omega)
   go_wp2_with fail
   go_roundw
   case rel=>
    refine⟨i+1,by omega,by rw[a7.o],by go_num,c.o.far (by have:=p.o;simp;omega) _,b.o.far (by have:=p.o;simp;omega) _,?_,Below.setCell d.o (by have:=P.o;simp;omega) _⟩
    rw[aa.o]
    exact j.o.seti i _
   case measure=>simp[intOf];omega
  have a8:i=17:=by omega
  subst a8
  have c1:=zbm f (i:=16) (by rw[C];omega)
  have f1:=f.free 16
  have ag:=wRun_small h m.o.1 17 (q101 _) 16 (by omega)
  have Q:Hid (wOut h=if 4≤(wRun h 17).1.getD 16 0 then(wRun h 17).1.set 16 ((wRun h 17).1.getD 16 0 - 4)else h):=jh rfl
  have D:=jh (wOut_length m.o)
  clear x l f v
  have ah:=jh C
  generalize (wRun h 17).1=J at*
  clear a9 a5
  generalize (wRun h 17).2=u at*
  have af:Hid (∀z:Int,Blk (wr.setCell ⟨G,16,none⟩ (.int .i64 z)) G (ints .i64 (J.set 16 z)) 137):=jh (fun z=>j.o.seti 16 z)
  generalize Y:J.getD 16 0=z at*
  obtain⟨z0,z1⟩:=ag
  by_cases h4:4≤z
  ·have n:wOut h=J.set 16 (z - 4):=by rw[Q.o,if_pos h4]
   obtain⟨o,q⟩:=nxq (wOut h)
   obtain⟨E,HG⟩:=jq2 q (af.o (z - 4))
   rw[←n,←q]at HG
   rw[←q]at D
   have ae:=jh (b.o.far (a:=⟨G,16,none⟩) (by have:=p.o;simp;omega) (.int .i64 (z - 4)))
   have ad:Hid (Ext w (wr.setCell ⟨G,16,none⟩ (.int .i64 (z - 4)))):=jh (Below.setCell d.o (by have:=P.o;simp;omega) _)
   have I:=jh (zei D.o)
   have ab:Hid ((ints .i64 o).length=(ints .i64 (List.replicate 17 0)).length):=jh (by rw[zaa,D.o,zaa,q110])
   clear n q Y
   go_wp2_with (first|(refine slb G HG.o Tryd.underlying137 I.o ?_)|(refine ssb (A+1) (ints .i64 o) ae.o ab.o I.o (zai _ _) ?_;intro w9 M F))
   refine bodyPost_ret (zat rfl _ (A+1) _ _ _ _ rfl M Tryd.underlying137 I.o) rfl ?_
   exact⟨by rw[X.o,E.o],zab ad.o F (by have:=B.o;omega)⟩
  have n:wOut h=h:=by rw[Q.o,if_neg h4]
  have E:=jh n
  have z3:z<4:=by omega
  clear n Y
  go_wp2_with (first|(refine slb A c.o Tryd.underlying137 k.o ?_)|(refine ssb (A+1) (ints .i64 h) b.o a4.o k.o (zai _ _) ?_;intro w9 M F))
  refine bodyPost_ret (zat rfl _ (A+1) _ _ _ _ rfl M Tryd.underlying137 k.o) rfl ?_
  exact⟨by rw[X.o,E.o],zab d.o F (by have:=B.o;omega)⟩
theorem gV_le {M:Int}(a:0≤M):∀{zs:List Int},(∀i,0≤zs.getD i 0∧zs.getD i 0≤M)→255*gV 256 zs+M≤M*256^zs.length
 |[],_=>by simp[gV]
 |z::r,h=>by
  have h0:=h 0
  simp only[List.getD_cons_zero]at h0
  have c:=gV_le a (zs:=r) (fun i=>by have:=h (i+1);simpa using this)
  simp only[gV,q103,q114]
  generalize gV 256 r=V at*
  generalize b:(256:Int)^r.length=B at*
  have e:M*(B*256)=256*(M*B):=by rw[←Int.mul_assoc,Int.mul_comm]
  rw[e]
  generalize M*B=X at*
  omega
theorem mul17 {h r:List Int}(g:h.length=17)(j:r.length=17)(d:∀i,0≤h.getD i 0∧h.getD i 0≤1024)(f:∀i,0≤r.getD i 0∧r.getD i 0≤255):
  Can17 (qThree (tList h r 17))∧gV 256 (qThree (tList h r 17))%(pQ:Int)=gV 256 h*gV 256 r%(pQ:Int):=by
 have b:∀i,0≤(tList h r 17).getD i 0∧(tList h r 17).getD i 0≤1420492800:=fun i=>by
  rw[tList_getD h r 17 (q101 _)]
  split
  ·have:=tRun_bound d f i 17
   omega
  omega
 have a:=zdt h r 17
 have e:=gV_le (by omega) b
 rw[a,show (256:Int)^17=87112285931760246646623899502532662132736 from by decide+kernel]at e
 have c:=qThree_val (tList h r 17) a (fun i=>(b i).1) (by omega)
 exact⟨c.1,c.2.trans (tList_val g j)⟩
def rA(key:List UInt8):Nat→List Int
 |0=>List.replicate 17 0
 |k+1=>(rA key k).set k ((key.getD k 0).toNat:Int)
def rB(key:List UInt8):Nat→List Int
 |0=>rA key 16
 |k+1=>(rB key k).set (3+4*k) ((rB key k).getD (3+4*k) 0%16)
def rC(key:List UInt8):Nat→List Int
 |0=>rB key 4
 |k+1=>(rC key k).set (4+4*k) ((rC key k).getD (4+4*k) 0 / 4*4)
theorem rA_length(key:List UInt8):∀k,(rA key k).length=17
 |0=>by simp[rA]
 |k+1=>by rw[rA,q117,rA_length key k]
theorem rB_length(key:List UInt8):∀k,(rB key k).length=17
 |0=>rA_length key 16
 |k+1=>by rw[rB,q117,rB_length key k]
theorem rC_length(key:List UInt8):∀k,(rC key k).length=17
 |0=>rB_length key 4
 |k+1=>by rw[rC,q117,rC_length key k]
theorem rA_digit(key:List UInt8):∀k i,0≤(rA key k).getD i 0∧(rA key k).getD i 0≤255
 |0,i=>by
  rcases q108 i 17 with a|a
  ·rw[rA,getD_eq (by simp;exact a),List.getElem_replicate]
   omega
  rw[zee (by simp[rA];exact a)]
  omega
 |k+1,i=>by
  rw[rA]
  by_cases e:i=k
  ·subst e
   rcases q108 i 17 with a|a
   ·rw[zaj (by rw[rA_length];exact a)]
    have:=(key.getD i 0).toNat_lt
    omega
   rw[zee (by rw[q117,rA_length];exact a)]
   omega
  rw[zae (by omega)]
  exact rA_digit key k i
theorem rB_digit(key:List UInt8):∀k i,k≤4→0≤(rB key k).getD i 0∧(rB key k).getD i 0≤255
 |0,i,_=>rA_digit key 16 i
 |k+1,i,hk=>by
  rw[rB]
  have a:=rB_digit key k
  by_cases e:i=3+4*k
  ·subst e
   rw[zaj (by rw[rB_length];omega)]
   have:=a (3+4*k) (by omega)
   omega
  rw[zae (by omega)]
  exact a i (by omega)
theorem rC_digit(key:List UInt8):∀k i,k≤3→0≤(rC key k).getD i 0∧(rC key k).getD i 0≤255
 |0,i,_=>rB_digit key 4 i (by omega)
 |k+1,i,hk=>by
  rw[rC]
  have a:=rC_digit key k
  by_cases e:i=4+4*k
  ·subst e
   rw[zaj (by rw[rC_length];omega)]
   have:=a (4+4*k) (by omega)
   omega
  rw[zae (by omega)]
  exact a i (by omega)
theorem rA_getD(key:List UInt8):∀k,k≤17→∀i,(rA key k).getD i 0=if i<k then((key.getD i 0).toNat:Int)else 0
 |0,_,i=>by
  rw[if_neg (by omega)]
  rcases q108 i 17 with a|a
  ·rw[rA,getD_eq (by simp;exact a),List.getElem_replicate]
  rw[zee (by simp[rA];exact a)]
 |k+1,hk,i=>by
  rw[rA]
  by_cases e:i=k
  ·subst e
   rw[zaj (by rw[rA_length];omega),if_pos (by omega)]
  rw[zae (by omega),rA_getD key k (by omega) i]
  by_cases h:i<k
  ·rw[if_pos h,if_pos (by omega)]
  rw[if_neg h,if_neg (by omega)]
theorem rB_getD(key:List UInt8):∀k,k≤4→∀i,(rB key k).getD i 0=if i%4=3∧i<3+4*k then(rA key 16).getD i 0%16 else(rA key 16).getD i 0
 |0,_,i=>by rw[if_neg (by omega)];rfl
 |k+1,hk,i=>by
  rw[rB]
  by_cases e:i=3+4*k
  ·subst e
   rw[zaj (by rw[rB_length];omega),rB_getD key k (by omega),if_neg (by omega),if_pos (by omega)]
  rw[zae (by omega),rB_getD key k (by omega) i]
  by_cases h:i%4=3∧i<3+4*k
  ·rw[if_pos h,if_pos (by omega)]
  rw[if_neg h,if_neg (by omega)]
theorem rC_getD(key:List UInt8):∀k,k≤3→∀i,(rC key k).getD i 0=if i%4=0∧4≤i∧i<4+4*k then(rB key 4).getD i 0 / 4*4 else(rB key 4).getD i 0
 |0,_,i=>by rw[if_neg (by omega)];rfl
 |k+1,hk,i=>by
  rw[rC]
  by_cases e:i=4+4*k
  ·subst e
   rw[zaj (by rw[rC_length];omega),rC_getD key k (by omega),if_neg (by omega),if_pos (by omega)]
  rw[zae (by omega),rC_getD key k (by omega) i]
  by_cases h:i%4=0∧4≤i∧i<4+4*k
  ·rw[if_pos h,if_pos (by omega)]
  rw[if_neg h,if_neg (by omega)]
theorem pDigits_length(key:List UInt8):(pDigits key).length=16:=by simp[pDigits]
theorem pDigits_getD(key:List UInt8) {i:Nat}(h:i<16):(pDigits key).getD i 0=(pDigit key i:Int):=by
 simp[pDigits,List.getD,h]
theorem rC_full(key:List UInt8):rC key 3=pDigits key++[0]:=by
 apply ext_getD (by rw[rC_length,q102,pDigits_length];rfl)
 intro i a
 rw[rC_length]at a
 rw[rC_getD key 3 (by omega),rB_getD key 4 (by omega),rA_getD key 16 (by omega)]
 rcases q108 i 16 with h|h
 ·have e:(pDigits key++[0]).getD i 0=(pDigit key i:Int):=by
   rw[←pDigits_getD key h]
   simp[List.getD,List.getElem?_append_left (show i<(pDigits key).length by rw[pDigits_length];exact h)]
  rw[e,if_pos h]
  unfold pDigit
  generalize (key.getD i 0).toNat=x
  by_cases c:i%4=3
  ·rw[if_neg (by omega),if_pos (by omega),if_pos (by omega)]
   omega
  by_cases h0:i%4=0∧4≤i
  ·rw[if_pos (by omega),if_neg (by omega),if_neg (by omega),if_pos (by omega)]
   omega
  rw[if_neg (by omega),if_neg (by omega),if_neg (by omega),if_neg (by omega)]
 have b:i=16:=by omega
 subst b
 rw[if_neg (by omega),if_neg (by omega),if_neg (by omega)]
 simp[List.getD,pDigits_length]
theorem rC_val(key:List UInt8):gV 256 (rC key 3)=pR key:=by
 rw[rC_full,gV_append]
 simp[gV,pR]
def cA(b:List UInt8)(n:Nat):Nat→List Int
 |0=>List.replicate 17 0
 |i+1=>(cA b n i).set i ((b.getD (16*n+i) 0).toNat:Int)
theorem cA_length(b:List UInt8)(n:Nat):∀k,(cA b n k).length=17
 |0=>by simp[cA]
 |k+1=>by rw[cA,q117,cA_length b n k]
theorem cA_getD(b:List UInt8)(n:Nat):∀k,k≤17→∀i,(cA b n k).getD i 0=if i<k then((b.getD (16*n+i) 0).toNat:Int)else 0
 |0,_,i=>by
  rw[if_neg (by omega)]
  rcases q108 i 17 with a|a
  ·rw[cA,getD_eq (by simp;exact a),List.getElem_replicate]
  rw[zee (by simp[cA];exact a)]
 |k+1,hk,i=>by
  rw[cA]
  by_cases e:i=k
  ·subst e
   rw[zaj (by rw[cA_length];omega),if_pos (by omega)]
  rw[zae (by omega),cA_getD b n k (by omega) i]
  by_cases h:i<k
  ·rw[if_pos h,if_pos (by omega)]
  rw[if_neg h,if_neg (by omega)]
theorem gV_cA(b:List UInt8)(n:Nat):∀k,k≤16→16*n+k≤b.length→gV 256 (cA b n k)=((leN ((b.drop (16*n)).take k):Nat):Int)
 |0,_,_=>by
  rw[cA,gV_zeros]
  simp[leN]
 |k+1,hk,hb=>by
  rw[cA,gV_set _ _ _ _ (by rw[cA_length];omega),gV_cA b n k (by omega) (by omega),cA_getD b n k (by omega) k,if_neg (by omega)]
  have e:(b.drop (16*n)).take (k+1)=(b.drop (16*n)).take k++[b.getD (16*n+k) 0]:=by
   rw[q128 (by rw[q113];omega)]
   congr 2
   rw[List.getElem_drop]
   simp[List.getD,show 16*n+k<b.length by omega]
  rw[e,←gV_bytes,←gV_bytes,q104,gV_append]
  have a:(((b.drop (16*n)).take k).map fun b=>(b.toNat:Int)).length=k:=by
   rw[q100,q106,q113]
   omega
  rw[a]
  simp only[q121,q122,gV]
  generalize (256:Int)^k=B
  generalize ((b.getD (16*n+k) 0).toNat:Int)=z
  rw[Int.sub_zero,Int.mul_zero,Int.add_zero,Int.mul_comm]
theorem gV_blk(b:List UInt8)(n:Nat)(c:16*n<b.length):gV 256 ((cA b n (min 16 (b.length - 16*n))).set (min 16 (b.length - 16*n)) 1)=pBlk b n:=by
 have a:min 16 (b.length - 16*n)≤16:=by omega
 rw[gV_set _ _ _ _ (by rw[cA_length];omega),gV_cA b n _ a (by omega),cA_getD b n _ (by omega) _,if_neg (by omega)]
 unfold pBlk
 have e:(b.drop (16*n)).take (min 16 (b.length - 16*n))=(b.drop (16*n)).take 16:=by
  rcases q108 (b.length - 16*n) 16 with h|h
  ·rw[Nat.min_eq_right (by omega),q105 (by rw[q113];omega),q105 (by rw[q113];omega)]
  rw[q134 h]
 rw[e]
 generalize (256:Int)^(min 16 (b.length - 16*n))=B
 omega
theorem blk_digit(b:List UInt8)(n m:Nat)(a:m≤16)(i:Nat):0≤((cA b n m).set m 1).getD i 0∧((cA b n m).set m 1).getD i 0≤255:=by
 by_cases e:i=m
 ·subst e
  rw[zaj (by rw[cA_length];omega)]
  omega
 rw[zae (by omega),cA_getD b n m (by omega)]
 split
 ·have:=(b.getD (16*n+i) 0).toNat_lt
  omega
 omega
def sA(h c:List Int):Nat→List Int
 |0=>h
 |i+1=>(sA h c i).set i ((sA h c i).getD i 0+c.getD i 0)
theorem sA_length(h c:List Int):∀k,(sA h c k).length=h.length
 |0=>rfl
 |k+1=>by rw[sA,q117,sA_length h c k]
theorem sA_far(h c:List Int):∀k j,k≤j→(sA h c k).getD j 0=h.getD j 0
 |0,_,_=>rfl
 |k+1,j,hj=>by rw[sA,zae (by omega),sA_far h c k j (by omega)]
theorem sA_val(h c:List Int)(a:h.length=c.length):∀k,k≤c.length→gV 256 (sA h c k)=gV 256 h+gV 256 (c.take k)
 |0,_=>by simp[sA,gV]
 |k+1,hk=>by
  rw[sA,gV_set _ _ _ _ (by rw[sA_length];omega),sA_val h c a k (by omega),zby 256 c k (by omega)]
  have:(sA h c k).getD k 0+c.getD k 0 - (sA h c k).getD k 0=c.getD k 0:=by omega
  rw[this]
  omega
theorem sA_full(h c:List Int)(a:h.length=17)(b:c.length=17):gV 256 (sA h c 17)=gV 256 h+gV 256 c:=by
 rw[sA_val h c (by omega) 17 (by omega),q105 (by omega)]
theorem sA_digit(h c:List Int)(d:h.length=17)(a:∀i,0≤h.getD i 0∧h.getD i 0≤255)(b:∀i,0≤c.getD i 0∧c.getD i 0≤255):∀k i,0≤(sA h c k).getD i 0∧(sA h c k).getD i 0≤1024
 |0,i=>by
  have:=a i
  exact⟨this.1,Int.le_trans this.2 (by decide)⟩
 |k+1,i=>by
  rw[sA]
  by_cases e:i=k
  ·subst e
   rcases q108 i 17 with f|f
   ·rw[zaj (by rw[sA_length];omega),sA_far h c i i (q101 _)]
    have:=a i
    have:=b i
    omega
   rw[zee (by rw[q117,sA_length];omega)]
   omega
  rw[zae (by omega)]
  exact sA_digit h c d a b k i
def uT(h:List Int)(s:List UInt8):Nat→Int
 |0=>0
 |i+1=>(uT h s i+h.getD i 0+((s.getD i 0).toNat:Int)) / 256
def tD(h:List Int)(s:List UInt8)(i:Nat):Int:=(uT h s i+h.getD i 0+((s.getD i 0).toNat:Int))%256
theorem uT_range {h:List Int}(a:∀i,0≤h.getD i 0∧h.getD i 0≤255)(s:List UInt8):∀i,0≤uT h s i∧uT h s i≤2
 |0=>by simp[uT]
 |i+1=>by
  have b:=uT_range a s i
  have h1:=a i
  have h2:=(s.getD i 0).toNat_lt
  simp only[uT]
  omega
def tL(h:List Int)(s:List UInt8)(n:Nat):List Int:=(List.range n).map (tD h s)
theorem tL_length(h:List Int)(s:List UInt8)(n:Nat):(tL h s n).length=n:=by simp[tL]
theorem tL_succ(h:List Int)(s:List UInt8)(n:Nat):tL h s (n+1)=tL h s n++[tD h s n]:=by
 simp[tL,List.range_succ]
theorem uT_val(h:List Int)(s:List UInt8)(f:h.length=17)(c:s.length=16):∀i,i≤16→gV 256 (tL h s i)+uT h s i*256^i=gV 256 (h.take i)+((leN (s.take i):Nat):Int)
 |0,_=>by simp[tL,uT,gV,leN]
 |i+1,hi=>by
  have g:=uT_val h s f c i (by omega)
  have e:s.take (i+1)=s.take i++[s.getD i 0]:=by
   rw[q128 (by omega)]
   simp[List.getD,show i<s.length by omega]
  rw[tL_succ,gV_append,tL_length,zby 256 h i (by omega),e,←gV_bytes,q104,gV_append]
  have a:((s.take i).map fun b=>(b.toNat:Int)).length=i:=by rw[q100,q106];omega
  rw[a,gV_bytes,q114]
  simp only[q121,q122,gV,uT]
  unfold tD
  generalize gV 256 (tL h s i)=T at*
  generalize gV 256 (h.take i)=V at*
  generalize ((leN (s.take i):Nat):Int)=L at*
  generalize (256:Int)^i=B at*
  generalize uT h s i=u at*
  generalize h.getD i 0=z at*
  generalize ((s.getD i 0).toNat:Int)=y at*
  have d:(u+z+y)=256*((u+z+y) / 256)+(u+z+y)%256:=(Int.mul_ediv_add_emod _ _).symm
  generalize (u+z+y) / 256=q at*
  generalize (u+z+y)%256=r at*
  have:u=256*q+r - z - y:=by omega
  subst this
  clear d e a
  grind
theorem tag_digits {h:List Int} {key b:List UInt8}(r:key.length=32)(f:h.length=17)(v:∀i,i<17→0≤h.getD i 0∧h.getD i 0<256)(m:gV 256 h=pNum key b):
  tL h ((key.drop 16).take 16) 16=(polyTag key b).map fun b=>(b.toNat:Int):=by
 have k:((key.drop 16).take 16).length=16:=by rw[q106,q113];omega
 have h1:=uT_val h _ f k 16 (q101 _)
 have j:=gV_17 f
 have d:(((leN (((key.drop 16).take 16).take 16):Nat):Int))=(pS key:Int):=by
  rw[q105 (l:=(key.drop 16).take 16) (by omega)]
  rfl
 rw[d]at h1
 clear d
 generalize (key.drop 16).take 16=s at*
 have q:=(pAcc_range (pR key) b ((b.length+15) / 16)).1
 have t:0≤pNum key b:=q
 have c:∀i,i<16→0≤(tL h s 16).getD i 0∧(tL h s 16).getD i 0<256:=fun i a=>by
  have e:(tL h s 16).getD i 0=tD h s i:=by
   simp only[tL,List.getD_eq_getElem?_getD,List.getElem?_map,List.getElem?_range a]
   rfl
  rw[e]
  unfold tD
  omega
 have p:=gV_range (B:=256) (by omega) (zs:=tL h s 16) (fun i a=>c i (by rw[tL_length]at a;exact a))
 rw[tL_length,pow_16]at p
 rw[pow_16]at h1
 have n:gV 256 (tL h s 16)=(((pNum key b+pS key).toNat%256^16:Nat):Int):=by
  rw[Int.natCast_emod,Int.toNat_of_nonneg (by omega),show ((256^16:Nat):Int)=340282366920938463463374607431768211456 from by decide+kernel,←m,j]
  generalize gV 256 (tL h s 16)=T at*
  generalize gV 256 (h.take 16)=V at*
  generalize h.getD 16 0=z at*
  generalize uT h s 16=u at*
  omega
 have g:=gV_dig 16 (pNum key b+pS key).toNat
 show _=dig 16 (pNum key b+pS key).toNat
 refine gV_inj (B:=256) (by omega) (by rw[tL_length,zck]) (fun i a=>c i (by rw[tL_length]at a;exact a)) (fun i a=>dig_digits 16 _ i (by rw[zck]at a;exact a)) ?_
 rw[n,g]
theorem Tryd.arr112:(Tryd.prog.info? 112).map (·.size)=some 16:=by kernel_rfl
theorem tag_size {l:List UInt8}(h:l.length=16):(Tryd.prog.info? 112).map (·.size)=some (l.map bval).length:=by rw[q100,h];exact Tryd.arr112
theorem and_i64_15(a:Int)(h1: -9223372036854775808≤a)(h2:a≤9223372036854775807):bits .and .i64 a 15=a%16:=by
 have h:(BitVec.ofInt 64 15).toNat=2^4 - 1:=by decide
 have key:(BitVec.ofInt 64 a &&& BitVec.ofInt 64 15).toNat=(a%((2^64:Nat):Int)).toNat%2^4:=by
  rw[BitVec.toNat_and,BitVec.toNat_ofInt,h,q124]
 show IntKind.i64.wrap ((BitVec.ofInt 64 a &&& BitVec.ofInt 64 15).toNat:Nat)=_
 rw[key,IntKind.wrap_i64]
 omega
theorem and_252_fin:∀n:Fin 256,bits .and .i64 (n.val:Int) 252=(n.val:Int) / 4*4:=by decide+kernel
theorem and_i64_252(a:Int)(h1:0≤a)(h2:a≤255):bits .and .i64 a 252=a / 4*4:=by
 obtain⟨n,rfl⟩:∃n:Nat,a=(n:Int):=⟨a.toNat,by omega⟩
 exact and_252_fin ⟨n,by omega⟩
theorem can17_zero:Can17 (List.replicate 17 0):=⟨by simp,fun i a=>by rw[getD_eq (by simp;omega),List.getElem_replicate];omega,by decide,by decide⟩
theorem can17_255 {h:List Int}(a:Can17 h):∀i,0≤h.getD i 0∧h.getD i 0≤255:=fun i=>by
 have:=a.digit i
 omega
theorem rPoly_any(c b:List UInt8)(bv:Value)(w:World)(hk:c.length=32)(P:Row1 w bv (b.map bval))(b6:b.length≤1099511627776):
  Calls Tryd.prog 79 #[.agg (c.map bval).toArray,bv] w fun e w'=>e=.returned (.agg ((polyTag c b).map bval).toArray)∧Below w.heap.size w w':=by
 obtain⟨aa,bs,HR⟩:=jq3 hk b6 P
 obtain⟨ab,cb,rfl,r1,r2,_,r4⟩:=id P
 rw[q100]at r1 HR⊢
 unfold maxLen at r2
 obtain⟨HC,HB⟩:=jq2 r4 (boxes4 w (c.map bval) (ints .u8 (List.replicate 16 0)) (ints .i64 (List.replicate 17 0)) (ints .i64 (List.replicate 17 0)) 23 112 137 137)
 clear hk P b6 r4
 go_enter Tryd.func79,Tryd.ntmps79
 go_upto_region 3 with(fail)
 obtain⟨B,t,D,d,x⟩:=HB.o
 change Code.wp _ _ _ _ ((((w.alloc (.cells (c.map bval).toArray 23)).alloc (.cells (ints .u8 (List.replicate 16 0)).toArray 112)).alloc (.cells (ints .i64 (List.replicate 17 0)).toArray 137)).alloc (.cells (ints .i64 (List.replicate 17 0)).toArray 137))
 generalize (((w.alloc (.cells (c.map bval).toArray 23)).alloc (.cells (ints .u8 (List.replicate 16 0)).toArray 112)).alloc (.cells (ints .i64 (List.replicate 17 0)).toArray 137)).alloc (.cells (ints .i64 (List.replicate 17 0)).toArray 137)=wa at*
 obtain⟨A,hA⟩:=nxq w.heap.size
 have R:Hid (w.heap.size≤A):=jh (by omega)
 rw[←hA]at B t D d⊢
 obtain⟨B,t⟩:=jq2 B t
 have D:Hid (Blk wa (A+1+1) (ints .i64 (rA c 0)) 137):=jh D
 have d:=jh d
 have x:Hid (Ext w wa):=jh x
 clear hA HB
 go_wp2_with fail
 go_loopw [7] (fun H wr=>∃(k:Nat),k≤16∧H=.int .i64 ((k:Int))∧Blk wr A (c.map bval) 23∧Blk wr (A+1) (ints .u8 (List.replicate 16 0)) 112∧Blk wr (A+1+1) (ints .i64 (rA c k)) 137∧Blk wr (A+1+1+1) (ints .i64 (List.replicate 17 0)) 137∧Ext w wr) (fun H _=>16 - (intOf H).toNat)
 case atStart=>exact⟨0,by omega,rfl,B.o,t.o,D.o,d.o,x.o⟩
 case round=>
  clear B t D d x
  obtain⟨k,hk,rfl,F,I,G,E,J⟩:=hrel
  have k0:(0:Int)≤(k:Int):=Int.natCast_nonneg _
  obtain⟨B,t,D,d,x⟩:=jq5 F I G E J
  by_cases al:k<16
  ·have k1:(k:Int)<16:=by omega
   have k2:(k:Int)<32:=by omega
   have k3:(k:Int)<17:=by omega
   have c1:=F.cell k
   rw[zbf (by rw[aa.o];omega)]at c1
   have c2:=zbm G (i:=k) (by rw[rA_length];omega)
   have f2:=G.free k
   have V:Hid (rA c (k+1)=(rA c k).set k ((c.getD k 0).toNat:Int)):=jh rfl
   have y0:=(c.getD k 0).toNat_lt
   clear F I G E J
   change wr.cell? ⟨A,k,none⟩=some (.int .u8 ((c.getD k 0).toNat:Int))at c1
   generalize (c.getD k 0).toNat=y at*
   have y1:(y:Int)≤255:=by omega
   have y2:(0:Int)≤(y:Int):=by omega
   go_wp2_with fail
   go_roundw
   case rel=>exact⟨k+1,by omega,by go_num,B.o.far (by simp;omega) _,t.o.far (by simp) _,by rw[V.o];exact D.o.seti k _,d.o.far (by simp) _,Below.setCell x.o (by have:=R.o;simp;omega) _⟩
   case measure=>simp[intOf];omega
  have bl:k=16:=by omega
  subst bl
  rw[show ((16:Nat):Int)=16 from rfl]
  clear F I G E J
  have D:Hid (Blk wr (A+1+1) (ints .i64 (rB c 0)) 137):=jh D.o
  go_wp2_with fail
  go_loopw [8] (fun H wr=>∃(k:Nat),k≤4∧H=.int .i64 (3+4*(k:Int))∧Blk wr A (c.map bval) 23∧Blk wr (A+1) (ints .u8 (List.replicate 16 0)) 112∧Blk wr (A+1+1) (ints .i64 (rB c k)) 137∧Blk wr (A+1+1+1) (ints .i64 (List.replicate 17 0)) 137∧Ext w wr) (fun H _=>20 - (intOf H).toNat)
  case atStart=>exact⟨0,by omega,rfl,B.o,t.o,D.o,d.o,x.o⟩
  case round=>
   clear B t D d x
   obtain⟨k,hk,rfl,F,I,G,E,J⟩:=hrel
   have k0:(0:Int)≤(k:Int):=Int.natCast_nonneg _
   obtain⟨B,t,D,d,x⟩:=jq5 F I G E J
   by_cases al:k<4
   ·have k1:3+4*(k:Int)<16:=by omega
    have k2:(0:Int)≤3+4*(k:Int):=by omega
    have k3:3+4*(k:Int)<17:=by omega
    have kn:(3+4*(k:Int)).toNat=3+4*k:=by omega
    have c1:=zbm G (i:=3+4*k) (by rw[rB_length];omega)
    have f1:=G.free (3+4*k)
    have hd:=rB_digit c k (3+4*k) (by omega)
    have V:Hid (rB c (k+1)=(rB c k).set (3+4*k) ((rB c k).getD (3+4*k) 0%16)):=jh rfl
    clear F I G E J
    generalize hz:(rB c k).getD (3+4*k) 0=z at*
    clear hz
    obtain⟨z0,z1⟩:=hd
    have a1:=and_i64_15 z (by omega) (by omega)
    go_wp2_with fail
    go_roundw
    case rel=>exact⟨k+1,by omega,by go_num,B.o.far (by simp;omega) _,t.o.far (by simp) _,by rw[V.o];exact D.o.seti _ _,d.o.far (by simp) _,Below.setCell x.o (by have:=R.o;simp;omega) _⟩
    case measure=>simp[intOf];omega
   have bn:k=4:=by omega
   subst bn
   rw[show ((4:Nat):Int)=4 from rfl]
   rw[show (3:Int)+4*4=19 from rfl]
   clear F I G E J
   have D:Hid (Blk wr (A+1+1) (ints .i64 (rC c 0)) 137):=jh D.o
   go_wp2_with fail
   go_loopw [9] (fun H wr=>∃(k:Nat),k≤3∧H=.int .i64 (4+4*(k:Int))∧Blk wr A (c.map bval) 23∧Blk wr (A+1) (ints .u8 (List.replicate 16 0)) 112∧Blk wr (A+1+1) (ints .i64 (rC c k)) 137∧Blk wr (A+1+1+1) (ints .i64 (List.replicate 17 0)) 137∧Ext w wr) (fun H _=>20 - (intOf H).toNat)
   case atStart=>exact⟨0,by omega,rfl,B.o,t.o,D.o,d.o,x.o⟩
   case round=>
    clear B t D d x
    obtain⟨k,hk,rfl,F,I,G,E,J⟩:=hrel
    have k0:(0:Int)≤(k:Int):=Int.natCast_nonneg _
    obtain⟨B,t,D,d,x⟩:=jq5 F I G E J
    by_cases al:k<3
    ·have k1:4+4*(k:Int)<16:=by omega
     have k2:(0:Int)≤4+4*(k:Int):=by omega
     have k3:4+4*(k:Int)<17:=by omega
     have kn:(4+4*(k:Int)).toNat=4+4*k:=by omega
     have c1:=zbm G (i:=4+4*k) (by rw[rC_length];omega)
     have f1:=G.free (4+4*k)
     have hd:=rC_digit c k (4+4*k) (by omega)
     have V:Hid (rC c (k+1)=(rC c k).set (4+4*k) ((rC c k).getD (4+4*k) 0 / 4*4)):=jh rfl
     clear F I G E J
     generalize hz:(rC c k).getD (4+4*k) 0=z at*
     clear hz
     obtain⟨z0,z1⟩:=hd
     have a1:=and_i64_252 z z0 z1
     go_wp2_with fail
     go_roundw
     case rel=>exact⟨k+1,by omega,by go_num,B.o.far (by simp;omega) _,t.o.far (by simp) _,by rw[V.o];exact D.o.seti _ _,d.o.far (by simp) _,Below.setCell x.o (by have:=R.o;simp;omega) _⟩
     case measure=>simp[intOf];omega
    have bw:k=3:=by omega
    subst bw
    rw[show ((3:Nat):Int)=3 from rfl]
    rw[show (4:Int)+4*3=16 from rfl]
    clear F I G E J
    clear hk k0 al
    have ai:=jh (rC_length c 3)
    have b0:=jh (fun i=>rC_digit c 3 i (by omega))
    have bc:=jh (rC_val c)
    generalize rC c 3=r at*
    go_wp2_with fail
    go_loopw [10] (fun H wr=>∃(n f:Nat) (K:List Int),f=16*n∧n≤(b.length+15) / 16∧H=.int .i64 (f:Int)∧Can17 K∧gV 256 K%(pQ:Int)=pAcc (pR c) b n∧Blk wr A (c.map bval) 23∧Blk wr (A+1) (ints .u8 (List.replicate 16 0)) 112∧Blk wr (A+1+1) (ints .i64 (r)) 137∧Blk wr (A+1+1+1) (ints .i64 (K)) 137∧Ext w wr) (fun H _=>b.length+16 - (intOf H).toNat)
    case atStart=>exact⟨0,0,_,rfl,by omega,rfl,can17_zero,by rw[gV_zeros];rfl,B.o,t.o,D.o,d.o,x.o⟩
    case round=>
     clear B t D d x
     obtain⟨n,f,K,hf,hn,rfl,av,ar,F,I,G,E,J⟩:=hrel
     have f0:(0:Int)≤(f:Int):=Int.natCast_nonneg _
     obtain⟨Z,HN,M,ak,B,t⟩:=jq6 hf hn av ar F I
     obtain⟨D,d,x⟩:=jq3 G E J
     clear hf hn av ar F I G E J
     by_cases c8:f<b.length
     ·have f1:(f:Int)<(b.length:Int):=by omega
      have X:=Ext.alloc wr (.cells (ints .i64 (List.replicate 17 0)).toArray 137)
      obtain⟨C,hC⟩:=nxq wr.heap.size
      have O:Hid (A+1+1+1<C):=jh (by have:=d.o.lt;omega)
      have U:Hid (Blk (wr.alloc (.cells (ints .i64 (List.replicate 17 0)).toArray 137)) C (ints .i64 (cA b n 0)) 137):=jh (by rw[hC];exact Blk.made wr (ints .i64 (List.replicate 17 0)) 137)
      obtain⟨B,t,D,d⟩:=xq4 B t D d X
      have x:=xxt x X
      clear X
      go_upto_region 19 with(fail)
      change Code.wp _ _ _ _ (wr.alloc (.cells (ints .i64 (List.replicate 17 0)).toArray 137))
      rw[←hC]
      clear hC
      generalize wr.alloc (.cells (ints .i64 (List.replicate 17 0)).toArray 137)=wc at*
      go_upto_if 59 with(fail)
      obtain⟨m,hm⟩:=nxq (min 16 (b.length - f))
      go_cut [12]from 54 to 59 (fun v wq=>v=.int .i64 (m:Int)∧wq=wc)
      case first=>
       by_cases c9:16<b.length - f
       ·have g1:(16:Int)<(b.length:Int) - (f:Int):=by omega
        have af:m=16:=by omega
        go_wp2_with fail
        go_meet
        exact⟨by rw[af];rfl,rfl⟩
       have g1:¬(16:Int)<(b.length:Int) - (f:Int):=by omega
       have af:(m:Int)=(b.length:Int) - (f:Int):=by omega
       go_wp2_with fail
       go_meet
       exact⟨by rw[af],rfl⟩
      case rest=>
       obtain⟨rfl,rfl⟩:=hcut
       have m0:(0:Int)≤(m:Int):=Int.natCast_nonneg _
       have HM:Hid (m=min 16 (b.length - 16*n)):=jh (by rw[hm,Z.o])
       have m1:m≤16:=by omega
       have c4:f+m≤b.length:=by omega
       clear hm
       obtain⟨g,og,rfl,b1,aq⟩:=HC.o (by intro e;have h:=congrArg List.length e;rw[q100]at h;simp only[q115]at h;omega)
       obtain⟨be,bh⟩:=jq2 b1 aq
       clear b1 aq
       go_wp2_with fail
       go_loopw [13] (fun H wr=>∃(i:Nat),i≤m∧H=.int .i64 (i:Int)∧Blk wr C (ints .i64 (cA b n i)) 137∧Blk wr A (c.map bval) 23∧Blk wr (A+1) (ints .u8 (List.replicate 16 0)) 112∧Blk wr (A+1+1) (ints .i64 (r)) 137∧Blk wr (A+1+1+1) (ints .i64 (K)) 137∧Ext w wr) (fun H _=>m - (intOf H).toNat)
       case atStart=>exact⟨0,by omega,rfl,U.o,B.o,t.o,D.o,d.o,x.o⟩
       case round=>
        clear B t D d U x
        obtain⟨i,S,rfl,Q,F,I,G,E,J⟩:=hrel
        have i0:(0:Int)≤(i:Int):=Int.natCast_nonneg _
        obtain⟨B,t,D,d,U,x⟩:=jq6 F I G E Q J
        by_cases ca:i<m
        ·have i1:(i:Int)<(m:Int):=by omega
         have i2:(i:Int)<17:=by omega
         obtain⟨q,hq⟩:=nxq (f+i)
         have az:q<b.length:=by omega
         have q1:(f:Int)+(i:Int)=(q:Int):=by omega
         have q2:(q:Int)<(b.length:Int):=by omega
         have q3:(0:Int)≤(q:Int):=by omega
         have c1:wr.cell? ⟨g,og+q,none⟩=some (.int .u8 ((b.getD q 0).toNat:Int)):=by
          have h:=bh.o q (by rw[q100];exact az)
          rw[zbf az]at h
          rw[←h]
          exact x.o.cell (p:=⟨g,og+q,none⟩) be.o
         have c2:=zbm Q (i:=i) (by rw[cA_length];omega)
         have f2:=Q.free i
         have V:Hid (cA b n (i+1)=(cA b n i).set i ((b.getD q 0).toNat:Int)):=jh (by rw[hq,Z.o];rfl)
         have y0:=(b.getD q 0).toNat_lt
         clear F I G E Q J hq
         generalize (b.getD q 0).toNat=y at*
         have y1:(y:Int)≤255:=by omega
         have y2:(0:Int)≤(y:Int):=by omega
         go_wp2_with fail
         go_roundw
         case rel=>exact⟨i+1,by omega,by go_num,by rw[V.o];exact U.o.seti i _,B.o.far (by have:=O.o;simp;omega) _,t.o.far (by have:=O.o;simp;omega) _,D.o.far (by have:=O.o;simp;omega) _,d.o.far (by have:=O.o;simp;omega) _,Below.setCell x.o (by have:=R.o;have:=O.o;simp;omega) _⟩
         case measure=>simp[intOf];omega
        have bp:i=m:=by omega
        subst bp
        clear F I G E Q J
        have i3:(i:Int)<17:=by omega
        have c2:=zbm U.o (i:=i) (by rw[cA_length];omega)
        have f2:=U.o.free i
        obtain⟨L,a7⟩:=nxq ((cA b n i).set i 1)
        have bm:Hid (gV 256 L=pBlk b n):=jh (by
         rw[a7]
         have h:=gV_blk b n (by have:=Z.o;omega)
         rw[←HM.o]at h
         exact h)
        have an:Hid (L.length=17):=jh (by rw[a7,q117,cA_length])
        have ah:=jh (show ∀j,0≤L.getD j 0∧L.getD j 0≤255 from fun j=>by rw[a7];exact blk_digit b n i m1 j)
        have ap:Hid (Blk (wr.setCell ⟨C,i,none⟩ (.int .i64 1)) C (ints .i64 L) 137):=jh (by rw[a7];exact U.o.seti i 1)
        have a6:=jh (B.o.far (a:=⟨C,i,none⟩) (by have:=O.o;simp;omega) (.int .i64 1))
        have a3:=jh (t.o.far (a:=⟨C,i,none⟩) (by have:=O.o;simp;omega) (.int .i64 1))
        have b9:=jh (D.o.far (a:=⟨C,i,none⟩) (by have:=O.o;simp;omega) (.int .i64 1))
        have a2:Hid (Blk (wr.setCell ⟨C,i,none⟩ (.int .i64 1)) (A+1+1+1) (ints .i64 (sA K L 0)) 137):=jh (d.o.far (a:=⟨C,i,none⟩) (by have:=O.o;simp;omega) (.int .i64 1))
        have a8:Hid (Ext w (wr.setCell ⟨C,i,none⟩ (.int .i64 1))):=jh (Below.setCell x.o (by have:=R.o;have:=O.o;simp;omega) _)
        go_upto_region 27 with(fail)
        clear B t D d U x c2 f2 a7
        generalize wr.setCell ⟨C,i,none⟩ (.int .i64 1)=wd at*
        go_wp2_with fail
        go_loopw [14] (fun H wr=>∃(j:Nat),j≤17∧H=.int .i64 (j:Int)∧Blk wr C (ints .i64 L) 137∧Blk wr A (c.map bval) 23∧Blk wr (A+1) (ints .u8 (List.replicate 16 0)) 112∧Blk wr (A+1+1) (ints .i64 (r)) 137∧Blk wr (A+1+1+1) (ints .i64 (sA K L j)) 137∧Ext w wr) (fun H _=>17 - (intOf H).toNat)
        case atStart=>exact⟨0,by omega,rfl,ap.o,a6.o,a3.o,b9.o,a2.o,a8.o⟩
        case round=>
         clear a6 a3 b9 a2 ap a8
         obtain⟨j,hj,rfl,Q,F,I,G,E,J⟩:=hrel
         have j0:(0:Int)≤(j:Int):=Int.natCast_nonneg _
         obtain⟨B,t,D,d,U,x⟩:=jq6 F I G E Q J
         have a0:Hid ((sA K L j).length=17):=jh (by rw[sA_length];exact M.o.1)
         by_cases c7:j<17
         ·have j1:(j:Int)<17:=by omega
          have c1:=zbm E (i:=j) (by rw[a0.o];omega)
          have c2:=zbm Q (i:=j) (by rw[an.o];omega)
          have f1:=E.free j
          have bx:=sA_digit K L M.o.1 (can17_255 M.o) ah.o j j
          have bg:=ah.o j
          have V:Hid (sA K L (j+1)=(sA K L j).set j ((sA K L j).getD j 0+L.getD j 0)):=jh rfl
          clear F I G E Q J
          generalize (sA K L j).getD j 0=y at*
          generalize L.getD j 0=z at*
          obtain⟨y0,y1⟩:=bx
          obtain⟨z0,z1⟩:=bg
          go_wp2_with fail
          go_region
          go_wp2_with fail
          go_roundw
          case rel=>exact⟨j+1,by omega,by go_num,U.o.far (by have:=O.o;simp;omega) _,B.o.far (by simp;omega) _,t.o.far (by simp;omega) _,D.o.far (by simp) _,by rw[V.o];exact d.o.seti j _,Ext.trans (b:=wr.setCell ⟨A+1+1+1,j,none⟩ (.int .i64 (y+z))) (Below.setCell x.o (by have:=R.o;simp;omega) _) (Ext.drew _)⟩
          case measure=>simp[intOf];omega
         have c3:j=17:=by omega
         subst c3
         rw[show ((17:Nat):Int)=17 from rfl]
         clear F I G E Q J
         obtain⟨aw,bd⟩:=jq2 (sA_digit K L M.o.1 (can17_255 M.o) ah.o 17) (sA_full K L M.o.1 an.o)
         generalize sA K L 17=s at*
         have ae:=jh (mul17 a0.o ai.o aw.o b0.o)
         have b7:=jh (fun w=>times17_any s r w a0.o ai.o aw.o b0.o)
         generalize qThree (tList s r 17)=Hm at*
         obtain⟨bk,ba,bq⟩:=jq3 (zei a0.o) (zei ai.o) (zei ae.o.1.1)
         have bb:Hid ((ints .i64 Hm).length=(ints .i64 s).length):=jh (by rw[zaa,zaa,ae.o.1.1,a0.o])
         go_wp2_with (first|(refine slb (A+1+1+1) d.o Tryd.underlying137 bk.o ?_)|(refine slb (A+1+1) D.o Tryd.underlying137 ba.o ?_))
         refine(b7.o wr).mono ?_
         rintro e w5 ⟨rfl,P⟩
         obtain⟨B,t,D,d⟩:=xq4 B t D d P
         have x:=xxt x P
         clear P b7
         have c5:(f:Int)+16≤9223372036854775807:=by have:=bs.o;omega
         go_wp2_with (refine ssb (A+1+1+1) (ints .i64 Hm) d.o bb.o bq.o (zai _ _) ?_;intro W N Y)
         go_roundw
         case rel=>
          refine⟨n+1,f+16,Hm,by have:=Z.o;omega,by have:=Z.o;omega,by go_num,ae.o.1,?_,B.o.grown Y (fun e=>by have h:=Option.some.inj e;omega),t.o.grown Y (fun e=>by have h:=Option.some.inj e;omega),D.o.grown Y (fun e=>by have h:=Option.some.inj e;omega),N,zab x.o Y (by have:=R.o;omega)⟩
          rw[ae.o.2,bd.o,bm.o,bc.o]
          show _=(pAcc (pR c) b n+pBlk b n)*pR c%(pQ:Int)
          rw[←ak.o,Int.mul_emod,Int.add_emod,Int.emod_add_emod]
          rw[Int.mul_emod ((gV 256 K%(pQ:Int)+pBlk b n)),Int.emod_add_emod]
          simp
         case measure=>simp[intOf];omega
     have au:n=(b.length+15) / 16:=by have:=Z.o;have:=HN.o;omega
     have b5:Hid (pAcc (pR c) b n=pNum c b):=jh (by rw[au];rfl)
     obtain⟨ax,ad⟩:=jq2 (can17_three M.o) (wOut_val (can17_three M.o).1)
     have b3:=jh (fun w=>whole17_any K w M.o)
     have b8:=jh (zei M.o.1)
     clear au
     go_wp2_with (refine slb (A+1+1+1) d.o Tryd.underlying137 b8.o ?_)
     refine(b3.o wr).mono ?_
     rintro e w5 ⟨rfl,P⟩
     obtain⟨B,t,d⟩:=xq3 B t d P
     have x:=xxt x P
     clear P b3 D
     obtain⟨h,hh⟩:=nxq (wOut (qThree K))
     have a4:Hid (h.length=17):=jh (by rw[hh];exact ad.o.1)
     have b4:Hid (∀i,i<17→0≤h.getD i 0∧h.getD i 0<256):=jh (by rw[hh];exact ad.o.2.1)
     have bo:Hid (gV 256 h=pNum c b):=jh (by rw[hh,ad.o.2.2,ax.o.2,ak.o,b5.o])
     rw[←hh]
     clear hh ax ad b5 ak
     obtain⟨am,b2⟩:=jq2 (tag_digits aa.o a4.o b4.o bo.o) (zei a4.o)
     have ao:Hid ((ints .i64 h).length=(ints .i64 K).length):=jh (by rw[zaa,zaa,a4.o,M.o.1])
     go_upto_region 33 with(refine ssb (A+1+1+1) (ints .i64 h) d.o ao.o b2.o (zai _ _) ?_;intro W N Y)
     have B:=jh (B.o.grown Y (fun e=>by have h:=Option.some.inj e;omega))
     have t:=jh (t.o.grown Y (fun e=>by have h:=Option.some.inj e;omega))
     have x:=jh (zab x.o Y (by have:=R.o;omega))
     have d:=jh N
     clear N Y ao b2 b8 M Z HN
     have a0:Hid (((c.drop 16).take 16).length=16):=jh (by rw[q106,q113,aa.o];rfl)
     have bj:Hid (∀i,i<16→((c.drop 16).take 16).getD i 0=c.getD (16+i) 0):=jh (fun i S=>by
      simp[List.getD,List.getElem?_take,S,List.getElem?_drop])
     have ay:Hid (∀i,0≤h.getD i 0∧h.getD i 0≤255):=jh (fun i=>by
      rcases q108 i 17 with S|S
      ·have:=b4.o i S
       omega
      rw[zee (by rw[a4.o];exact S)]
      omega)
     have bi:=jh (uT_range ay.o ((c.drop 16).take 16))
     generalize (c.drop 16).take 16=s at*
     obtain⟨o,ho⟩:=nxq (polyTag c b)
     have HO:=jh ho
     have a5:Hid (o.length=16):=jh (by rw[ho];exact zdk _ _)
     have bz:Hid (∀i,i<16→tD h s i=((o.getD i 0).toNat:Int)):=jh (fun i S=>by
      have e:=congrArg (fun l=>l.getD i 0) am.o
      rw[←ho]at e
      have e1:(tL h s 16).getD i 0=tD h s i:=by
       simp only[tL,List.getD_eq_getElem?_getD,List.getElem?_map,List.getElem?_range S]
       rfl
      have bf:i<o.length:=by rw[ho,zdk];exact S
      have e2:(o.map fun b=>(b.toNat:Int)).getD i 0=((o.getD i 0).toNat:Int):=by simp[List.getD,bf]
      rw[←e1,←e2]
      exact e)
     clear ho am
     obtain⟨T,hT⟩:=nxq W.heap.size
     have ac:Hid (A+1+1+1<T):=jh (by have:=d.o.lt;omega)
     have X:=Ext.alloc W (.cells (ints .u8 (List.replicate 16 0)).toArray 112)
     have H6:Hid (Blk (W.alloc (.cells (ints .u8 (List.replicate 16 0)).toArray 112)) T ((fill 16 o 0).map bval) 112):=jh (by rw[fill_start,hT];exact Blk.made W (ints .u8 (List.replicate 16 0)) 112)
     have a6:=xxb B X
     have a3:=xxb t X
     have a2:=xxb d X
     have a8:=xxt x X
     clear X
     go_upto_region 34 with(fail)
     change Code.wp _ _ _ _ (W.alloc (.cells (ints .u8 (List.replicate 16 0)).toArray 112))
     rw[←hT]
     clear B t d x hT
     generalize W.alloc (.cells (ints .u8 (List.replicate 16 0)).toArray 112)=w8 at*
     go_wp2_with fail
     go_loopw [16,17] (fun uv H wr=>∃(i:Nat),i≤16∧uv=.int .i64 (uT h s i)∧H=.int .i64 (i:Int)∧Blk wr A (c.map bval) 23∧Blk wr (A+1) (ints .u8 (List.replicate 16 0)) 112∧Blk wr (A+1+1+1) (ints .i64 h) 137∧Blk wr T ((fill 16 o i).map bval) 112∧Ext w wr) (fun _ H _=>16 - (intOf H).toNat)
     case atStart=>exact⟨0,by omega,rfl,rfl,a6.o,a3.o,a2.o,H6.o,a8.o⟩
     case round=>
      clear a6 a3 a2 H6 a8
      obtain⟨i,S,rfl,rfl,F,I,E,N,J⟩:=hrel
      have i0:(0:Int)≤(i:Int):=Int.natCast_nonneg _
      obtain⟨B,t,d,H6,x⟩:=jq5 F I E N J
      by_cases a9:i<16
      ·have i1:(i:Int)<16:=by omega
       have i2:(i:Int)<17:=by omega
       obtain⟨q,hq⟩:=nxq (16+i)
       have q1:(16:Int)+(i:Int)=(q:Int):=by omega
       have q2:(q:Int)<32:=by omega
       have q3:(0:Int)≤(q:Int):=by omega
       have c1:=zbm E (i:=i) (by rw[a4.o];omega)
       have c2:=F.cell q
       rw[zbf (by rw[aa.o];omega)]at c2
       have ag:=bj.o i a9
       rw[←hq]at ag
       rw[←ag]at c2
       obtain⟨u6,c6⟩:∃u,wr.cell? ⟨T,i,none⟩=some u:=⟨_,by rw[N.cell,zbf (by rw[zdr a5.o (by omega)];exact a9)]⟩
       have f6:=N.free i
       have hu:=bi.o i
       have hz:=ay.o i
       have hy:=(s.getD i 0).toNat_lt
       have HU:Hid (uT h s (i+1)=(uT h s i+h.getD i 0+((s.getD i 0).toNat:Int)) / 256):=jh rfl
       have HD:Hid ((uT h s i+h.getD i 0+((s.getD i 0).toNat:Int))%256=((o.getD i 0).toNat:Int)):=jh (bz.o i a9)
       clear F I E N J hq ag
       change wr.cell? ⟨A,q,none⟩=some (.int .u8 ((s.getD i 0).toNat:Int))at c2
       generalize (s.getD i 0).toNat=y at*
       generalize h.getD i 0=z at*
       generalize uT h s i=u at*
       obtain⟨u0,u1⟩:=hu
       obtain⟨z0,z1⟩:=hz
       have y1:(y:Int)≤255:=by omega
       have y2:(0:Int)≤(y:Int):=by omega
       have a1:=zcl (u+z+(y:Int)) (by omega) (by omega)
       go_wp2_with fail
       go_region
       go_wp2_with fail
       go_roundw
       case rel=>
        refine⟨i+1,by omega,by rw[HU.o],by go_num,B.o.far (by have:=ac.o;simp;omega) _,t.o.far (by have:=ac.o;simp;omega) _,d.o.far (by have:=ac.o;simp;omega) _,?_,Ext.trans (b:=wr.setCell ⟨T,i,none⟩ (.int .u8 ((u+z+(y:Int))%256))) (Below.setCell x.o (by have:=R.o;have:=ac.o;simp;omega) _) (Ext.drew _)⟩
        rw[←zcv a5.o a9 HD.o]
        exact H6.o.set i _
       case measure=>simp[intOf];omega
      have bu:i=16:=by omega
      subst bu
      rw[fill_full a5.o]at N
      have H6:=jh N
      have aj:Hid ((Tryd.prog.info? 112).map (·.size)=some (o.map bval).length):=jh (tag_size a5.o)
      have br:Hid ((o.map bval).length=(ints .u8 (List.replicate 16 0)).length):=jh (by rw[q100,a5.o,zaa,q110])
      clear F I E N J
      go_wp2_with (first|(refine slb T H6.o Tryd.underlying112 aj.o ?_)|(refine ssb (A+1) (o.map bval) t.o br.o aj.o (zac _) ?_;intro w9 c0 bt))
      refine bodyPost_ret (zat rfl _ (A+1) _ _ _ _ rfl c0 Tryd.underlying112 aj.o) rfl ?_
      exact⟨by rw[HO.o],zab x.o bt (by have:=R.o;omega)⟩
theorem byte_one:(Tryd.prog.info? 5).map (·.size)=some 1:=by kernel_rfl
theorem fill_two(s c:List UInt8):(s++z16 s.length++c)++z16 (s++z16 s.length++c).length=s++(z16 s.length++(c++z16 c.length)):=by
 have e:z16 (s++z16 s.length++c).length=z16 c.length:=by
  unfold z16
  simp only[q102,q110]
  congr 1
  omega
 rw[e]
 simp[q107]
theorem aeaMsg_length(c s:List UInt8):(aeaMsg c s).length≤c.length+s.length+46:=by
 unfold aeaMsg
 simp only[q102,z16_length,zap]
 omega
theorem rTag_any(d nb c s:List UInt8)(cv sv:Value)(w:World)(hk:d.length=32)(hn:nb.length=12)(hc:Row1 w cv (c.map bval))(hs:Row1 w sv (s.map bval))(c3:c.length≤1000000000)(c7:s.length≤1000000000):
  Calls Tryd.prog 62 #[.agg (d.map bval).toArray,.agg (nb.map bval).toArray,cv,sv] w fun e w'=>e=.returned (.agg ((aeaTag d nb c s).map bval).toArray)∧Below w.heap.size w w':=by
 obtain⟨K,hi,ao,bb,bs⟩:=info_parts Tryd.info5
 obtain⟨L,G,E,z,c4,c9⟩:=jq6 hi ao bb bs hc hs
 obtain⟨ac,co,b7,c1,c2,_⟩:=id hc
 obtain⟨ad,cn,ar,s1,s2,_⟩:=id hs
 rw[q100]at b7 c1 ar s1
 subst b7 ar
 unfold maxLen at c2 s2
 obtain⟨r,i,HB⟩:=jq3 c3 c7 (boxes3 w (d.map bval) (nb.map bval) (ints .u8 (List.replicate 16 0)) 23 97 112)
 have c5:Hid ((Tryd.prog.info? 23).map (·.size)=some (d.map bval).length):=jh (zag hk)
 have cf:Hid ((Tryd.prog.info? 97).map (·.size)=some (nb.map bval).length):=jh (nonce_size hn)
 obtain⟨cc,cg⟩:=jq2 hk hn
 clear hi ao bb bs hc hs hk hn
 go_enter Tryd.func62,Tryd.ntmps62
 go_upto_region 1 with(fail)
 obtain⟨t,u,b,a⟩:=HB.o
 change Code.wp _ _ _ _ (((w.alloc (.cells (d.map bval).toArray 23)).alloc (.cells (nb.map bval).toArray 97)).alloc (.cells (ints .u8 (List.replicate 16 0)).toArray 112))
 generalize ((w.alloc (.cells (d.map bval).toArray 23)).alloc (.cells (nb.map bval).toArray 97)).alloc (.cells (ints .u8 (List.replicate 16 0)).toArray 112)=wa at*
 obtain⟨A,hA⟩:=nxq w.heap.size
 have ce:Hid (w.heap.size≤A):=jh (by omega)
 rw[←hA]at t u b⊢
 obtain⟨t,u,b⟩:=jq3 t u b
 have a:Hid (Ext w wa):=jh a
 clear hA HB
 go_wp2_with (first|(refine slb A t.o Tryd.underlying23 c5.o ?_)|(refine slb (A+1) u.o Tryd.underlying97 cf.o ?_))
 refine(rBlock_any d nb 0 wa cc.o cg.o (by decide) (by decide)).mono ?_
 rintro e C ⟨rfl,n⟩
 have b:=xxb b n
 have a:=xxt a n
 clear n t u
 have bv:Hid (oneKey d nb=(chaBlock d (BitVec.ofInt 32 0) nb).take 32):=jh rfl
 have aa:=jh (chaBlock_length d (BitVec.ofInt 32 0) nb)
 generalize chaBlock d (BitVec.ofInt 32 0) nb=k at*
 obtain⟨HZ,aw⟩:=jq2 (Blk.made C (ints .u8 (List.replicate 64 0)) 26) (Ext.alloc C (.cells (ints .u8 (List.replicate 64 0)).toArray 26))
 have cd:Hid ((Tryd.prog.info? 26).map (·.size)=some (k.map bval).length):=jh (zeb aa.o)
 have bk:Hid ((k.map bval).length=(ints .u8 (List.replicate 64 0)).length):=jh (by rw[q100,aa.o,zaa,q110])
 go_upto_region 2 with(refine ssb C.heap.size (k.map bval) HZ.o bk.o cd.o (zac _) ?_;intro p R bj)
 have ah:=jh (zab aw.o bj (q101 _))
 have b:=xxb b ah.o
 have a:=xxt a ah.o
 obtain⟨S,hS⟩:=nxq C.heap.size
 rw[←hS]at R⊢
 have q:=jh R
 clear R bj HZ aw ah bk hS
 have a8:=Ext.alloc p (.cells (ints .u8 (List.replicate 32 0)).toArray 23)
 obtain⟨O,Y⟩:=nxq p.heap.size
 have bn:Hid (A+1+1<O∧w.heap.size≤O):=jh (by have:=b.o.lt;have:=a.o.size;omega)
 have g:Hid (Blk (p.alloc (.cells (ints .u8 (List.replicate 32 0)).toArray 23)) O ((List.replicate 32 (0:UInt8)).map bval) 23):=jh (by rw[Y];exact Blk.made p (ints .u8 (List.replicate 32 0)) 23)
 obtain⟨b,q⟩:=xq2 b q a8
 have a:=xxt a a8
 clear a8
 go_upto_region 3 with(fail)
 change Code.wp _ _ _ _ (p.alloc (.cells (ints .u8 (List.replicate 32 0)).toArray 23))
 rw[←Y]
 clear Y
 generalize p.alloc (.cells (ints .u8 (List.replicate 32 0)).toArray 23)=w3 at*
 refine swf 2 1 2 ?_
 refine zcs (.slice (some ⟨O,0,none⟩) 32 32) (by rfl) (fun w hw=>by go_simp) ?_
 simp only[nm]
 refine zcs (.slice (some ⟨S,0,none⟩) 32 64) (by rfl) (fun w hw=>by go_simp) ?_
 simp only[nm]
 refine det_nil (end_store (k:=2) rfl (by kernel_rfl) (by kernel_rfl) (by kernel_rfl) rfl (fun w4 af=>?_))
 obtain⟨b,q,g⟩:=xq3 b q g af
 have a:=xxt a af
 clear af
 have l:Hid ((k.take 32).length=32):=jh (by rw[q106,aa.o];rfl)
 refine zcf _ _ 24 24 rfl 5 Tryd.underlying24 byte_one _ _ _ _ _ _ rfl rfl O 0 _ _ g.o ((k.take 32).map bval) (by rw[q100,l.o];rfl) (fun _=>⟨rfl,⟨S,0,none⟩,rfl,fun j v hj=>?_⟩) (by rw[q100,l.o];simp) (zac _) ?_
 ·have cj:j<32:=by
   rcases q108 j 32 with h|h
   ·exact h
   rw[List.getElem?_eq_none (by rw[q100,l.o];omega)]at hj;cases hj
  rw[WideShapes.add_plain,q111,q.o.cell,←hj,List.getElem?_map,List.getElem?_map,List.getElem?_take,if_pos cj]
 intro D Q ai
 have br:splice ((List.replicate 32 (0:UInt8)).map bval) 0 ((k.take 32).map bval)=(k.take 32).map bval:=by
  rw[splice_bytes,l.o]
  simp
 rw[br]at Q
 have b:=jh (b.o.grown ai (by have:=bn.o;simp;omega))
 obtain⟨a,g⟩:=jq2 (zab a.o ai bn.o.2) Q
 clear Q ai q br
 generalize goInt ((k.take 32).map bval).length=g1
 simp only[nm]
 rw[←bv.o]at l g
 have ca:Hid ((Tryd.prog.info? 23).map (·.size)=some ((oneKey d nb).map bval).length):=jh (zag l.o)
 have bz:Hid (aeaTag d nb c s=polyTag (oneKey d nb) (aeaMsg c s)):=jh rfl
 generalize oneKey d nb=ok at*
 -- what is tagged
 obtain⟨base,bi⟩:=nxq D.heap.size
 have f:Hid (base≤D.heap.size):=jh (by omega)
 have b0:Hid (w.heap.size≤base):=jh (by rw[bi];exact a.o.size)
 have ax:Hid (A+1+1<base∧O<base):=jh (by have:=b.o.lt;have:=g.o.lt;omega)
 have a3:Hid (D.ownsRow base 5 1 (.slice none 0 0) 0 []):=jh (World.ownsRow_nil _ _ _ _)
 have au:=jh (c9.o.below a.o)
 have X:Hid ((s.map bval).length=s.length):=jh (q100 _)
 have b6:Hid ((c.map bval).length=c.length):=jh (q100 _)
 clear bi
 go_wp2_with (at_builtin;refine zad rfl _ _ 24 rfl base 5 K (.int .u8 0) 1 Tryd.underlying24 L.o G.o E.o z.o rfl _ 0 [] rfl a3.o rfl au.o (zac _) (by rw[X.o];have:=i.o;unfold maxLen;omega) (by rw[X.o];have:=i.o;omega) f.o ?_;intro v6 w6 b4 ay)
 have a2:=jh (below_own (Below.refl base D) a3.o ay f.o)
 have bu:Hid (w6.ownsRow base 5 1 v6 s.length (s.map bval)):=jh (zcn b4 (by rw[X.o];omega) rfl)
 clear b4 ay a3 au
 have bm:Hid (base≤w6.heap.size):=jh (q118 f.o a2.o.size)
 go_wp2_with fail
 refine(rFilled_any v6 s base w6 bu.o bm.o (by have:=i.o;omega)).mono ?_
 rintro e w7 ⟨x7,rfl,a9,b2⟩
 have J:=jh (a2.o.trans b2)
 obtain⟨x,B⟩:=nxq (s++z16 s.length)
 have a0:Hid (x.length≤s.length+16):=jh (by rw[B,q102,z16_length];omega)
 rw[←B]at a9
 obtain⟨b9,P⟩:=jq2 B a9
 clear a9 b2 B bu a2 bm
 have b3:Hid (Ext w w7):=jh (Below.trans a.o (Below.mono J.o b0.o))
 have an:=jh (c4.o.below b3.o)
 have N:Hid (base≤w7.heap.size):=jh (q118 f.o J.o.size)
 have ak:Hid (x.length+(c.map bval).length≤3000000000):=jh (by rw[b6.o];have:=a0.o;have:=r.o;have:=i.o;omega)
 go_wp2_with (at_builtin;refine zad rfl _ _ 24 rfl base 5 K (.int .u8 0) 1 Tryd.underlying24 L.o G.o E.o z.o rfl _ _ _ rfl P.o rfl an.o (zac _) (by have:=ak.o;unfold maxLen;omega) (by have:=ak.o;omega) N.o ?_;intro v8 w8 bc bl)
 have U:=jh (below_own J.o P.o bl N.o)
 have aq:Hid (w8.ownsRow base 5 1 v8 (x++c).length ((x++c).map bval)):=jh (zcn bc (by rw[b6.o,q102]) (by rw[q104]))
 clear bc bl P J N an b3 ak
 have bd:Hid (base≤w8.heap.size):=jh (q118 f.o U.o.size)
 go_wp2_with fail
 refine(rFilled_any v8 (x++c) base w8 aq.o bd.o (by rw[q102];have:=a0.o;have:=r.o;have:=i.o;omega)).mono ?_
 rintro e w9 ⟨x9,rfl,y,bt⟩
 have a6:=jh (U.o.trans bt)
 have e9:=fill_two s c
 rw[←b9.o]at e9
 rw[e9]at y
 have I:Hid (aeaMsg c s=(s++(z16 s.length++(c++z16 c.length)))++bytesN 8 s.length++bytesN 8 c.length):=jh (by unfold aeaMsg;simp[q107])
 have H:Hid ((s++(z16 s.length++(c++z16 c.length))).length≤2000000100):=jh (by simp only[q102,z16_length];have:=r.o;have:=i.o;omega)
 obtain⟨M,bg⟩:=nxq (s++(z16 s.length++(c++z16 c.length)))
 rw[←bg]at y I H
 have bf:=jh y
 clear y bt e9 bg aq U bd b9 a0
 have b1:Hid (base≤w9.heap.size):=jh (q118 f.o a6.o.size)
 go_wp2_with fail
 refine(rLength_any s.length w9 (by have:=i.o;omega)).mono ?_
 rintro e ck ⟨cm,rfl,am,W⟩
 obtain⟨al,a1,bq⟩:=jq3 (a6.o.trans (Below.mono W b1.o)) (zbi bf.o W) (Row1.of_own am)
 have Z:Hid (base≤ck.heap.size):=jh (q118 f.o al.o.size)
 have T:Hid (M.length+((bytesN 8 s.length).map bval).length≤2000000200):=jh (by rw[q100,zap];have:=H.o;omega)
 clear am W bf a6 b1
 go_wp2_with (at_builtin;refine zad rfl _ _ 24 rfl base 5 K (.int .u8 0) 1 Tryd.underlying24 L.o G.o E.o z.o rfl _ _ _ rfl a1.o rfl bq.o (zac _) (by have:=T.o;unfold maxLen;omega) (by have:=T.o;omega) Z.o ?_;intro ci ag be b5)
 have aj:=jh (below_own al.o a1.o b5 Z.o)
 have b8:Hid (ag.ownsRow base 5 1 ci (M++bytesN 8 s.length).length ((M++bytesN 8 s.length).map bval)):=jh (zcn be (by rw[q100,q102]) (by rw[q104]))
 clear be b5 a1 al Z bq T
 have av:Hid (base≤ag.heap.size):=jh (q118 f.o aj.o.size)
 refine(rLength_any c.length ag (by have:=r.o;omega)).mono ?_
 rintro e c0 ⟨cq,rfl,az,a5⟩
 obtain⟨V,ab,bh⟩:=jq3 (aj.o.trans (Below.mono a5 av.o)) (zbi b8.o a5) (Row1.of_own az)
 have a4:Hid (base≤c0.heap.size):=jh (q118 f.o V.o.size)
 have a7:Hid ((M++bytesN 8 s.length).length+((bytesN 8 c.length).map bval).length≤2000000300):=jh (by rw[q100,zap,q102,zap];have:=H.o;omega)
 clear az a5 b8 aj av
 go_upto_region 7 with(at_builtin;refine zad rfl _ _ 24 rfl base 5 K (.int .u8 0) 1 Tryd.underlying24 L.o G.o E.o z.o rfl _ _ _ rfl ab.o rfl bh.o (zac _) (by have:=a7.o;unfold maxLen;omega) (by have:=a7.o;omega) a4.o ?_;intro bw ae ba bo)
 have F:=jh (below_own V.o ab.o bo a4.o)
 have ap:Hid (ae.ownsRow base 5 1 bw (aeaMsg c s).length ((aeaMsg c s).map bval)):=jh (zcn ba (by rw[I.o,q100];simp only[q102]) (by rw[I.o];simp only[q104]))
 clear ba bo ab V a4 bh a7
 have b:=jh (b.o.same (F.o.block _ ax.o.1))
 have g:=jh (g.o.same (F.o.block _ ax.o.2))
 have a:Hid (Ext w ae):=jh (Below.trans a.o (Below.mono F.o b0.o))
 have cl:=jh (Row1.of_own ap.o)
 have cb:Hid ((aeaMsg c s).length≤1099511627776):=jh (by have:=aeaMsg_length c s;have:=r.o;have:=i.o;omega)
 generalize aeaMsg c s=m at*
 clear I ap F H
 have bp:Hid ((Tryd.prog.info? 112).map (·.size)=some ((polyTag ok m).map bval).length):=jh (tag_size (zdk _ _))
 have c8:Hid (((polyTag ok m).map bval).length=(ints .u8 (List.replicate 16 0)).length):=jh (by rw[q100,zdk,zaa,q110])
 go_wp2_with (refine slb O g.o Tryd.underlying23 ca.o ?_)
 refine(rPoly_any ok m _ ae l.o cl.o cb.o).mono ?_
 rintro e cp ⟨rfl,n⟩
 have b:=xxb b n
 have a:=xxt a n
 clear n
 go_wp2_with (refine ssb (A+1+1) ((polyTag ok m).map bval) b.o c8.o bp.o (zac _) ?_;intro cr bx c6)
 refine bodyPost_ret (zat rfl _ (A+1+1) _ _ _ _ rfl bx Tryd.underlying112 bp.o) rfl ?_
 exact⟨by rw[bz.o],zab a.o c6 (by have:=ce.o;omega)⟩
theorem res_two {b:Func} {i j:Nat}(c:b.results=#[.tmp i,.tmp j])(a:Array Value)(w:World):
  (results b a).run Tryd.prog w=.ok (.tuple #[a.getD i undef,a.getD j undef]) w:=by
 unfold results
 rw[c]
 simp
end Go.Proofs.YtgnfdonbholcdaaDoor


