/- Lemmas. -/
import Derived.Test.YtgnfdonbholcdaaGreatDoorQz09
import Derived.Test.YtgnfdonbholcdaaGreatDoorQz11
namespace Go.Proofs.YtgnfdonbholcdaaGreatDoor
set_option linter.unusedVariables false
set_option maxRecDepth 100000
set_option maxHeartbeats 32000000
set_option linter.unusedSimpArgs false
open Go.RowKit
theorem rmay_f(n:List UInt8)(w:World)(l:n.length=32)(k:GlobD w)(r:Glob w):Calls Tryz.prog 95 #[.agg (n.map bval).toArray] w fun e z=>e=.returned (.bool (mayB n))∧Below w.heap.size w z:=by
 obtain⟨y,H,G,i⟩:=jq4 l k r (boxes_one w (n.map bval) 23)
 clear l k r
 go_enter Tryz.func95,Tryz.ntmps95
 go_upto_region 1 with(fail)
 obtain⟨d,a⟩:=i.o
 change Code.wp _ _ _ _ (w.alloc (.cells (n.map bval).toArray 23))
 generalize w.alloc (.cells (n.map bval).toArray 23)=t at*
 obtain⟨A,v⟩:=nxq w.heap.size
 rw[←v]at d⊢
 have x:=jh d
 have a:Hid (Ext w t):=jh a
 clear v i d
 go_wp2_with (refine slb A x.o q102 (zaf y.o) ?_)
 refine(rread_f n t y.o (H.o.ext a.o) (G.o.ext a.o)).mono ?_
 rintro e c ⟨f,rfl,q,g,C,h⟩
 have a:=xxt a h
 obtain⟨j,F⟩:=jq2 q g
 obtain⟨J,b⟩:=nxq (mayB n)
 rw[←b]
 have I:=jh b
 clear q g C h x b
 obtain⟨s,u⟩:=jq2 (Blk.made c (ints .i64 (List.replicate 64 0)) 126) (Ext.alloc c (.cells (ints .i64 (List.replicate 64 0)).toArray 126))
 have B:Hid (f.length=(ints .i64 (List.replicate 64 0)).length):=jh (by rw[j.o,zaa];rfl)
 have D:Hid ((Tryz.prog.info? 126).map (·.size)=some f.length):=jh (by rw[j.o];kernel_rfl)
 go_upto_region 2 with(refine ssb c.heap.size f s.o B.o D.o F.o ?_;intro wc E m)
 have p:=jh (zab u.o m (q101 _))
 have a:=xxt a p.o
 clear E m s u p
 go_wp2_with fail
 go_ret
 exact⟨by rw[I.o];rfl,a.o⟩
def GS(w:World):Prop:=GlobK5 w∧GlobO w∧GlobD w∧GlobX w∧GlobY w
def GV(w:World):Prop:=GS w∧Glob w
theorem GS.ext {w b:World}(h:GS w)(a:Ext w b):GS b:=⟨h.1.ext a,h.2.1.ext a,h.2.2.1.ext a,h.2.2.2.1.ext a,h.2.2.2.2.ext a⟩
theorem GV.ext {w a:World}(h:GV w)(b:Ext w a):GV a:=⟨h.1.ext b,h.2.ext b⟩
theorem rSignCert_any(root key:List UInt8)(a:Int)(w:World)(p:root.length=32)(O:key.length=32)(Y:GV w):
  Calls Tryz.prog 52 #[.agg (root.map bval).toArray,.int .i64 a,.agg (key.map bval).toArray] w fun e s=>e=.returned (.tuple #[.agg (certC (sgnI a key) (sgnK a key) (sgnG root a key)).toArray,.int .i64 (sgnE a key)])∧Below w.heap.size w s:=by
 obtain⟨a7,j,a4,I,P,V⟩:=jq6 p O (zaf p) (zaf O) Y (boxes3 w (root.map bval) (key.map bval) (certC 0 z32 z64) 23 23 28)
 obtain⟨aa,u⟩:=jq2 (zcc (id:=0) zbk zdc) (cert_size (id:=0) zbk zdc)
 clear p O Y
 go_enter Tryz.func52,Tryz.ntmps52
 go_upto_region 1 with(fail)
 obtain⟨m,i,N,d⟩:=V.o
 change Code.wp _ _ _ _ (((w.alloc (.cells (root.map bval).toArray 23)).alloc (.cells (key.map bval).toArray 23)).alloc (.cells (certC 0 z32 z64).toArray 28))
 generalize ((w.alloc (.cells (root.map bval).toArray 23)).alloc (.cells (key.map bval).toArray 23)).alloc (.cells (certC 0 z32 z64).toArray 28)=M at*
 have d:Hid (Ext w M):=jh d
 obtain⟨C,T⟩:=nxq (w.heap.size+1+1)
 have E:Hid (w.heap.size≤C):=jh (by omega)
 rw[←T]at N⊢
 obtain⟨B,hB⟩:=nxq (w.heap.size+1)
 rw[←hB]at i⊢
 obtain⟨A,W⟩:=nxq w.heap.size
 have D:Hid (A<B∧B<C):=jh (by omega)
 rw[←W]at m⊢
 obtain⟨m,i,q⟩:=jq3 m i N
 clear W hB T V N
 go_wp2_with fail
 refine(rsmall_any a M).mono ?_
 rintro e s ⟨rfl,rfl⟩
 cases hsm:smallB a with
 |false=>
  have b:=jh (sgn_arg (key:=key) hsm root)
  clear hsm
  go_wp2_with (first|(refine zch rfl _ _ rfl _ rfl _ (build_cert0 _) ?_)|(refine ssb C (certC 0 z32 z64) q.o rfl u.o (certC_one _ _ _) ?_;intro w9 z Q))
  refine bodyPost_ret (zau rfl _ C _ _ _ rfl z q167 rfl u.o) rfl ?_
  exact⟨by rw[b.o.1,b.o.2.1,b.o.2.2.1,b.o.2.2.2];rfl,zab d.o Q E.o⟩
 |true=>
  have Z:=jh hsm
  clear hsm
  have G:=jh (rmay_f key M j.o (P.o.1.2.2.1.ext d.o) (P.o.2.ext d.o))
  have a6:Hid (mayB key=mayB key):=jh rfl
  obtain⟨my,J⟩:=nxq (mayB key)
  rw[←J]at G
  have a2:=jh J
  clear J a6
  go_wp2_with (refine slb B i.o q102 I.o ?_)
  refine G.o.mono ?_
  rintro e k ⟨rfl,y⟩
  obtain⟨m,i,q⟩:=xq3 m i q y
  have d:=xxt d y
  clear y G
  cases my with
  |false=>
   have b:=jh (sgn_key (key:=key) Z.o a2.o.symm root)
   go_wp2_with (first|(refine zch rfl _ _ rfl _ rfl _ (build_cert0 _) ?_)|(refine ssb C (certC 0 z32 z64) q.o rfl u.o (certC_one _ _ _) ?_;intro w9 z Q))
   refine bodyPost_ret (zau rfl _ C _ _ _ rfl z q167 rfl u.o) rfl ?_
   exact⟨by rw[b.o.1,b.o.2.1,b.o.2.2.1,b.o.2.2.2];rfl,zab d.o Q E.o⟩
  |true=>
   have b:=jh (sgn_yes Z.o a2.o.symm root)
   obtain⟨g,v⟩:=nxq (edSign root (certT a key))
   have a9:Hid (certG root a key=g):=jh v.symm
   have t:Hid (g.length=64):=jh (by rw[v];exact zet _ _)
   have a5:=jh (fun (x:Value) (wx:World) (hx:Ext k wx) (p:Row1 wx x ((certT a key).map bval))=>by
    have n:=P.o.1.ext (d.o.trans hx)
    have h:=rsign_f root (certT a key) x wx a7.o p (by rw[certT_length,j.o];decide) n.1 n.2.1 n.2.2.1 n.2.2.2.1 n.2.2.2.2
    rw[←v]at h
    exact h)
   clear v
   go_upto_region 6 with(fail)
   have U:Ext k k.drew:=Ext.drew _
   refine wp_region_held_drew (S:=fun s=>Far (C) k s) (by kernel_rfl) (zap U) (fun f=>?_)
   refine tke 0 (.int .i64 a) rfl (zbe _ (.int .i64 a) (by rfl) rfl rfl) f ?_
   simp only[nm]
   refine tke 1 (.agg ((key).map bval).toArray) rfl (sld B 0 (fun w h=>zat i.o (by have:=D.o;omega) h) q102 I.o) f ?_
   simp only[nm]
   refine tke 2 (.agg ((root).map bval).toArray) rfl (sld A 0 (fun w h=>zat m.o (by have:=D.o;omega) h) q102 a4.o) f ?_
   simp only[nm]
   refine tke 3 (.int .i64 a) rfl (zbe _ (.int .i64 a) (by rfl) rfl rfl) f ?_
   simp only[nm]
   refine tke 4 (.agg ((key).map bval).toArray) rfl (sld B 0 (fun w h=>zat i.o (by have:=D.o;omega) h) q102 I.o) f ?_
   simp only[nm]
   refine rdy 5 rfl fun K c=>?_
   go_simp
   refine(rcertText_any a key k.drew j.o).mono ?_
   rintro e H ⟨x1,rfl,l,b1⟩
   have l:Row1 H x1 ((certT a key).map bval):=l
   obtain⟨a1,c1,a3,_⟩:=id l
   rw[show ((certT a key).map bval).length=44 from by rw[q100,certT_length,j.o]]at a3
   subst a3
   have F:Ext k H:=U.trans b1
   refine c.o _ _ (zap F) (fun f=>?_)
   clear c K
   try simp only[nm]
   refine rdy 6 rfl fun K c=>?_
   go_simp
   refine(a5.o _ H F l).mono ?_
   rintro e m2 ⟨rfl,R⟩
   have l:=l.below R
   have r:Ext k m2:=F.trans R
   refine c.o _ _ (zap r) (fun f=>?_)
   clear c K
   try simp only[nm]
   refine tke 7 (.agg (certC a key g).toArray) rfl (yi_build _ _ _ _ (build_cert a j.o t.o) (by rfl) rfl (by simp[Act.eval])) f ?_
   simp only[nm]
   refine rdy 8 rfl fun K c=>?_
   refine zan (by rfl) ?_
   refine zar _ _ _ rfl C (certC a key g) rfl rfl _ _ (zak q.o r) (by rw[zcc j.o t.o,zcc zbk zdc]) (cert_size j.o t.o) (certC_one _ _ _) ?_
   intro m3 a8 L
   refine c.o _ _ (zby r L) (fun f=>?_)
   clear c K
   try simp only[nm]
   refine rdy 9 rfl fun K c=>?_
   go_simp
   refine c.o _ _ (zby r L) (fun f=>?_)
   clear c K
   try simp only[nm]
   refine dne ?_
   have X:=a8
   have a0:=zab (d.o.trans r) L E.o
   generalize m3=ab at X a0⊢
   go_wp2_with fail
   refine bodyPost_ret (zau rfl _ C _ _ _ rfl X q167 rfl (cert_size j.o t.o)) rfl ?_
   exact⟨by rw[b.o.1,b.o.2.1,b.o.2.2.1,b.o.2.2.2,a9.o];rfl,a0⟩
def fA(l:List UInt8)(k:Nat):List UInt8:=l++List.replicate k 0
theorem fA_succ(l:List UInt8)(k:Nat):fA l (k+1)=fA l k++[0]:=by
 unfold fA
 rw[List.replicate_succ',q109]
theorem fA_length(l:List UInt8)(k:Nat):(fA l k).length=l.length+k:=by simp[fA]
theorem fA_full(l:List UInt8):fA l ((16 - l.length%16)%16)=l++z16 l.length:=rfl
theorem bytesN_succ:∀(k n:Nat),bytesN (k+1) n=bytesN k n++[UInt8.ofNat (n / 256^k%256)]:=fun k n=>by
 have h:=bytesN_append k 1 n
 rw[h]
 congr 1
theorem rFilled_any(v:Value)(l:List UInt8)(base:Nat)(w:World)(D:w.ownsRow base 5 1 v l.length (l.map bval))(q:base≤w.heap.size)(O:l.length≤1099511627776):
  Calls Tryz.prog 169 #[v] w fun e m=>∃x,e=.returned x∧m.ownsRow base 5 1 x (l++z16 l.length).length ((l++z16 l.length).map bval)∧Below base w m:=by
 obtain⟨L,C,p,s,A⟩:=info_parts Tryz.info5
 obtain⟨H,F,M,I⟩:=jq4 C p s A
 have y:Hid (w.ownsRow base 5 1 v (fA l 0).length ((fA l 0).map bval)):=jh (by simpa[fA]using D)
 obtain⟨j,J⟩:=jq2 q (fA_full l)
 clear D q C p s A
 go_enter Tryz.func169,Tryz.ntmps169
 go_wp2_with fail
 go_loopw [0] (fun x wr=>∃(k:Nat),k≤(16 - l.length%16)%16∧wr.ownsRow base 5 1 x (fA l k).length ((fA l k).map bval)∧Below base w wr) (fun x _=>l.length+16 - lenOf x)
 case atStart=>exact⟨0,by omega,y.o,Below.refl _ _⟩
 case round=>
  clear y
  obtain⟨k,E,f,r⟩:=hrel
  obtain⟨P,N,rfl,B,t,_⟩:=id (Row1.of_own f)
  have c:=fA_length l k
  obtain⟨b,g⟩:=jq2 f r
  rw[q100,c]at B b⊢
  unfold maxLen at t
  clear f r
  by_cases h:k=(16 - l.length%16)%16
  ·have K:(((l.length+k:Nat):Int)%16 !=0)=false:=by simp;omega
   have a:Hid (fA l k=l++z16 l.length):=jh (by rw[h];exact J.o)
   have d:Hid (l.length+k=(l++z16 l.length).length):=jh (by rw[←a.o,c])
   clear c h B t E
   generalize l.length+k=n at*
   go_wp2_with fail
   go_ret
   exact⟨_,rfl,zcp b.o d.o (by rw[a.o]),g.o⟩
  have K:(((l.length+k:Nat):Int)%16 !=0)=true:=by simp;omega
  have i:=jh g.o.size
  have a:Hid (k<(16 - l.length%16)%16):=jh (by omega)
  generalize u:l.length+k=n at*
  have d:=jh u
  have S:n≤1099511627900:=by omega
  clear u c h E
  go_wp2_with (at_builtin;refine zad rfl _ _ 24 rfl base 5 L (.int .u8 0) 1 q104 H.o F.o M.o I.o rfl _ n _ rfl (b.o.alloc _) rfl (Row1.made _ #[.int .u8 0] _ _ 1 ([0].map bval) rfl rfl rfl (by unfold maxLen;omega)) (zac _) (by unfold maxLen;simp;omega) (by simp;omega) (by simp;have:=i.o;have:=j.o;omega) ?_;intro R Q z G)
  go_roundw
  case rel=>
   refine⟨k+1,a.o,zcp z (by rw[fA_length,←d.o];simp;omega) (by rw[fA_succ,q110]),below_own (g.o.trans (Below.mono (Ext.alloc wr (.cells #[.int .u8 0] 5)) (by have:=i.o;have:=j.o;omega))) (b.o.alloc _) G (by simp;have:=i.o;have:=j.o;omega)⟩
  case measure=>
   rw[ownRow_len z]
   have:=d.o
   have:=a.o
   simp[lenOf]
   omega
theorem rLength_any(n:Nat)(w:World)(P:n≤1099511627776):
  Calls Tryz.prog 170 #[.int .i64 (n:Int)] w fun e g=>∃x,e=.returned x∧g.ownsRow w.heap.size 5 1 x 8 ((bytesN 8 n).map bval)∧Below w.heap.size w g:=by
 obtain⟨I,r,h,l,p⟩:=info_parts Tryz.info5
 obtain⟨D,z,J,E⟩:=jq4 r h l p
 have m:Hid (w.ownsRow w.heap.size 5 1 (.slice none 0 0) 0 ((bytesN 0 n).map bval)):=jh (World.ownsRow_nil _ _ _ _)
 clear r h l p
 go_enter Tryz.func170,Tryz.ntmps170
 go_wp2_with fail
 go_loopw [3,4] (fun x f wr=>∃(k:Nat),k≤8∧f=.int .i64 (k:Int)∧wr.ownsRow w.heap.size 5 1 x k ((bytesN k n).map bval)∧Ext w wr) (fun _ f _=>8 - (intOf f).toNat)
 case atStart=>exact⟨0,by omega,rfl,m.o,Ext.refl _⟩
 case round=>
  clear m
  obtain⟨k,V,rfl,b,a⟩:=hrel
  have Q:(0:Int)≤(k:Int):=Int.natCast_nonneg _
  obtain⟨d,j,G⟩:=jq3 b a a.size
  by_cases L:k<8
  ·have N:(k:Int)<8:=by omega
   have H:=jh (bytesN_succ k n)
   obtain⟨s,v⟩:=nxq (8*k)
   have M:8*(k:Int)=(s:Int):=by omega
   have O:(s:Int)<64:=by omega
   have K:(0:Int)≤(s:Int):=by omega
   have t:(2:Int)^s=((256^k:Nat):Int):=by rw[v,Int.pow_mul];simp
   have R:(n:Int) / 2^s=((n / 256^k:Nat):Int):=by rw[t,←Int.natCast_ediv]
   have U:n / 256^k≤n:=Nat.div_le_self _ _
   have y:((UInt8.ofNat (n / 256^k%256)).toNat:Int)=((n / 256^k:Nat):Int)%256:=by rw[UInt8.toNat_ofNat'];omega
   generalize UInt8.ofNat (n / 256^k%256)=c at*
   generalize n / 256^k=q at*
   have X:=zct (q:Int) (by omega) (by omega)
   have B:Hid (bval c=.int .u8 ((q:Int)%256)):=jh (by unfold bval;rw[y])
   clear b a v y t
   go_wp2_with (at_builtin;refine zad rfl _ _ 24 rfl w.heap.size 5 I (.int .u8 0) 1 q104 D.o z.o J.o E.o rfl _ k _ rfl (d.o.alloc _) rfl (Row1.made _ #[.int .u8 ((q:Int)%256)] _ _ 1 [.int .u8 ((q:Int)%256)] rfl rfl rfl (by unfold maxLen;omega)) (by intro u i;simp at i;subst i;rfl) (by unfold maxLen;simp;omega) (by simp;omega) (by simp;have:=G.o;omega) ?_;intro T S F C)
   go_roundw
   case rel=>
    refine⟨k+1,by omega,by go_num,zcp F (by simp) (by rw[H.o,q110,q139,q135,B.o]),zbf (j.o.trans (Ext.alloc wr _)) (d.o.alloc _) (q101 _) C⟩
   case measure=>simp[intOf];omega
  have A:k=8:=by omega
  subst A
  clear b a
  go_wp2_with fail
  go_ret
  exact⟨_,rfl,d.o,j.o⟩
theorem rol_any(x:W32)(n:Nat)(f:n≤32)(w:World):Calls Tryz.prog 191 #[.int .u32 (wi x),.int .u64 (n:Int)] w fun e a=>e=.returned (.int .u32 (wi (rotl x n)))∧w=a:=by
 have b:=jh (wi_rotl x n)
 have d:=wi_range x
 generalize wi x=z at*
 have c:(n:Int)≤32:=by omega
 go_enter Tryz.func191,Tryz.ntmps191
 go_wp2_with fail
 go_ret
 exact⟨congrArg (fun v=>Ending.returned (.int .u32 v)) (by rw[←b.o,IntKind.wrap_u32]),rfl⟩
section
theorem w_same {l:List W32} {i:Nat} {v:W32}(h:i<l.length):(l.set i v).getD i 0#32=v:=by simp[List.getD,h]
theorem w_far {l:List W32} {i j:Nat} {v:W32}(h:i≠j):(l.set i v).getD j 0#32=l.getD j 0#32:=by simp[List.getD,List.getElem?_set_ne h]
structure QI(s:List W32)(a b c d:Nat)(l:List W32)(A B C D:W32):Prop where
 len:l.length=16
 ea:l.getD a 0#32=A
 eb:l.getD b 0#32=B
 ec:l.getD c 0#32=C
 ed:l.getD d 0#32=D
 rest:∀i,i≠a→i≠b→i≠c→i≠d→l.getD i 0#32=s.getD i 0#32
section
variable {s l:List W32} {a b c d:Nat} {A B C D:W32}
theorem QI.set_a(h:QI s a b c d l A B C D)(e:a<16)(m:a≠b)(j:a≠c)(k:a≠d)(n:b≠c)(q:b≠d)(p:c≠d)(v:W32):QI s a b c d (l.set a v) v B C D:=
 ⟨by rw[q125];exact h.len,w_same (by rw[h.len];exact e),by rw[w_far m];exact h.eb,by rw[w_far j];exact h.ec,by rw[w_far k];exact h.ed,fun i h1 h2 f g=>by rw[w_far (Ne.symm h1)];exact h.rest i h1 h2 f g⟩
theorem QI.set_b(h:QI s a b c d l A B C D)(e:b<16)(m:a≠b)(n:a≠c)(q:a≠d)(g:b≠c)(k:b≠d)(p:c≠d)(v:W32):QI s a b c d (l.set b v) A v C D:=
 ⟨by rw[q125];exact h.len,by rw[w_far (Ne.symm m)];exact h.ea,w_same (by rw[h.len];exact e),by rw[w_far g];exact h.ec,by rw[w_far k];exact h.ed,fun i h1 h2 f j=>by rw[w_far (Ne.symm h2)];exact h.rest i h1 h2 f j⟩
theorem QI.set_c(h:QI s a b c d l A B C D)(f:c<16)(q:a≠b)(k:a≠c)(n:a≠d)(g:b≠c)(p:b≠d)(m:c≠d)(v:W32):QI s a b c d (l.set c v) A B v D:=
 ⟨by rw[q125];exact h.len,by rw[w_far (Ne.symm k)];exact h.ea,by rw[w_far (Ne.symm g)];exact h.eb,w_same (by rw[h.len];exact f),by rw[w_far m];exact h.ed,fun i h1 h2 e j=>by rw[w_far (Ne.symm e)];exact h.rest i h1 h2 e j⟩
theorem QI.set_d(h:QI s a b c d l A B C D)(f:d<16)(q:a≠b)(p:a≠c)(k:a≠d)(n:b≠c)(m:b≠d)(j:c≠d)(v:W32):QI s a b c d (l.set d v) A B C v:=
 ⟨by rw[q125];exact h.len,by rw[w_far (Ne.symm k)];exact h.ea,by rw[w_far (Ne.symm m)];exact h.eb,by rw[w_far (Ne.symm j)];exact h.ec,w_same (by rw[h.len];exact f),fun i h1 h2 g e=>by rw[w_far (Ne.symm e)];exact h.rest i h1 h2 g e⟩
theorem QI.eq {g:List W32}(h:QI s a b c d l A B C D)(h2:QI s a b c d g A B C D):l=g:=by
 apply q168 (by rw[h.len,h2.len])
 intro i n p
 have e:l.getD i 0#32=g.getD i 0#32:=by
  by_cases m:i=a
  ·rw[m,h.ea,h2.ea]
  by_cases f:i=b
  ·rw[f,h.eb,h2.eb]
  by_cases k:i=c
  ·rw[k,h.ec,h2.ec]
  by_cases j:i=d
  ·rw[j,h.ed,h2.ed]
  rw[h.rest i m f k j,h2.rest i m f k j]
 simpa[List.getD,n,p]using e
end
theorem zeb {w:World} {X i:Nat} {l:List W32} {v:W32} {t:TypeId}(c:Blk w X (ints .u32 (ws l)) t)(d:l.getD i 0#32=v)(b:l.length=16)(a:i<16):w.cell? ⟨X,i,none⟩=some (.int .u32 (wi v)):=by
 rw[c.cell,zas (by rw[zaw,b];exact a),zea,d]
theorem qi_set {w:World} {X:Nat} {l:List W32} {t:TypeId}(a:Blk w X (ints .u32 (ws l)) t)(i:Nat)(v:W32):Blk (w.setCell ⟨X,i,none⟩ (.int .u32 (wi v))) X (ints .u32 (ws (l.set i v))) t:=by
 rw[←ws_set]
 exact a.seti i _
end
theorem quarter_any(X:Nat)(s:List W32)(a b c d:Nat)(w:World)(M:Blk w X (ints .u32 (ws s)) 226)(hs:s.length=16)(x:a<16)(y:b<16)(A:c<16)(B:d<16)(q:a≠b)(l:a≠c)(t:a≠d)(p:b≠c)(k:b≠d)(n:c≠d):
  Calls Tryz.prog 184 #[.pointer (some ⟨X,0,none⟩),.int .i64 (a:Int),.int .i64 (b:Int),.int .i64 (c:Int),.int .i64 (d:Int)] w fun e w'=>e=.returned (.tuple #[])∧Blk w' X (ints .u32 (ws (qrt s a b c d))) 226∧w.grownBy w' (some X):=by
 have a0:(0:Int)≤(a:Int):=Int.natCast_nonneg _
 have a1:(a:Int)<16:=by omega
 have b0:(0:Int)≤(b:Int):=Int.natCast_nonneg _
 have b1:(b:Int)<16:=by omega
 have c0:(0:Int)≤(c:Int):=Int.natCast_nonneg _
 have c1:(c:Int)<16:=by omega
 have d0:(0:Int)≤(d:Int):=Int.natCast_nonneg _
 have d1:(d:Int)<16:=by omega
 obtain⟨U,an⟩:=nxq (s.getD a 0#32)
 obtain⟨z,ai⟩:=nxq (s.getD b 0#32)
 obtain⟨N,ad⟩:=nxq (s.getD c 0#32)
 obtain⟨K,aa⟩:=nxq (s.getD d 0#32)
 go_enter Tryz.func184,Tryz.ntmps184
 have F:QI s a b c d s U z N K:=⟨hs,an.symm,ai.symm,ad.symm,aa.symm,fun i _ _ _ _=>rfl⟩
 obtain⟨aw,aq,b7,ba⟩:=jq4 an ai ad aa
 clear an ai ad aa
 obtain⟨j,ap⟩:=nxq (U+z)
 have s0:IntKind.u32.wrap (wi U+wi z)=wi j:=by rw[ap];exact zci _ _
 have p0:=zeb M F.ea F.len x
 have r0:=zeb M F.eb F.len y
 have f0:=M.free a
 obtain⟨bd,b8,a3,bh⟩:=jq4 (qi_set M a j) (F.set_a x q l t p k n j) (zbo (zav (zay w (some X)) a (.int .u32 (wi j))) 1) ap
 clear ap
 go_wp2_with fail
 go_region
 go_upto_region 1 with(fail)
 change Code.wp _ _ _ _ (w.setCell ⟨X,a,none⟩ (.int .u32 (wi j))).drew
 have T:Blk (w.setCell ⟨X,a,none⟩ (.int .u32 (wi j))).drew X _ 226:=bd.o
 have a3:Hid (w.grownBy (w.setCell ⟨X,a,none⟩ (.int .u32 (wi j))).drew (some X)):=jh a3.o
 have C:=b8.o
 clear bd b8 p0 r0 f0 s0 M F
 generalize (w.setCell ⟨X,a,none⟩ (.int .u32 (wi j))).drew=L at*
 obtain⟨x1,a7⟩:=nxq (K^^^j)
 have s1:bits .xor .u32 (wi K) (wi j)=wi x1:=by rw[a7];exact zdm _ _
 obtain⟨u,ab⟩:=nxq (rotl x1 16)
 have ar:=fun w=>jh (rol_any x1 16 (by omega) w)
 rw[←ab]at ar
 have p1:=zeb T C.ed C.len B
 have r1:=zeb T C.ea C.len x
 have f1:=T.free d
 obtain⟨bf,ay,al,bl⟩:=jq4 (qi_set T d u) (C.set_d B q l t p k n u) (zbo (zav (a3.o) d (.int .u32 (wi u))) 1) ab
 clear ab
 have bo:=jh a7
 clear a7
 go_wp2_with fail
 refine wp_region_still_tail 16 (by kernel_rfl) (by kernel_rfl) ?_
 simp only[q173,List.take_zero,List.drop_succ_cons,List.drop_zero]
 repeat still_step
 still_call ((ar _).o.mono fun _ _ h=>⟨h.1,h.2.symm⟩)
 repeat still_step
 refine wpStill_nil ?_
 change wpList _ _ _ _ _ L.drew
 go_upto_region 2 with(fail)
 change Code.wp _ _ _ _ (L.drew.setCell ⟨X,d,none⟩ (.int .u32 (wi u)))
 have V:Blk (L.drew.setCell ⟨X,d,none⟩ (.int .u32 (wi u))) X _ 226:=bf.o
 have al:Hid (w.grownBy (L.drew.setCell ⟨X,d,none⟩ (.int .u32 (wi u))) (some X)):=jh al.o
 have E:=ay.o
 clear bf ay p1 r1 f1 s1 T C
 generalize (L.drew.setCell ⟨X,d,none⟩ (.int .u32 (wi u)))=w2 at*
 obtain⟨m,ak⟩:=nxq (N+u)
 have s2:IntKind.u32.wrap (wi N+wi u)=wi m:=by rw[ak];exact zci _ _
 have p2:=zeb V E.ec E.len A
 have r2:=zeb V E.ed E.len B
 have f2:=V.free c
 obtain⟨b4,ax,ag,bv⟩:=jq4 (qi_set V c m) (E.set_c A q l t p k n m) (zbo (zav (al.o) c (.int .u32 (wi m))) 1) ak
 clear ak
 go_wp2_with fail
 go_region
 go_upto_region 3 with(fail)
 change Code.wp _ _ _ _ (w2.setCell ⟨X,c,none⟩ (.int .u32 (wi m))).drew
 have Q:Blk (w2.setCell ⟨X,c,none⟩ (.int .u32 (wi m))).drew X _ 226:=b4.o
 have ag:Hid (w.grownBy (w2.setCell ⟨X,c,none⟩ (.int .u32 (wi m))).drew (some X)):=jh ag.o
 have H:=ax.o
 clear b4 ax p2 r2 f2 s2 V E
 generalize (w2.setCell ⟨X,c,none⟩ (.int .u32 (wi m))).drew=R at*
 obtain⟨x3,am⟩:=nxq (z^^^m)
 have s3:bits .xor .u32 (wi z) (wi m)=wi x3:=by rw[am];exact zdm _ _
 obtain⟨v,a9⟩:=nxq (rotl x3 12)
 have au:=fun w=>jh (rol_any x3 12 (by omega) w)
 rw[←a9]at au
 have p3:=zeb Q H.eb H.len y
 have r3:=zeb Q H.ec H.len A
 have f3:=Q.free b
 obtain⟨b6,b5,a8,br⟩:=jq4 (qi_set Q b v) (H.set_b y q l t p k n v) (zbo (zav (ag.o) b (.int .u32 (wi v))) 1) a9
 clear a9
 have bn:=jh am
 clear am
 go_wp2_with fail
 refine wp_region_still_tail 16 (by kernel_rfl) (by kernel_rfl) ?_
 simp only[q173,List.take_zero,List.drop_succ_cons,List.drop_zero]
 repeat still_step
 still_call ((au _).o.mono fun _ _ h=>⟨h.1,h.2.symm⟩)
 repeat still_step
 refine wpStill_nil ?_
 change wpList _ _ _ _ _ R.drew
 go_upto_region 4 with(fail)
 change Code.wp _ _ _ _ (R.drew.setCell ⟨X,b,none⟩ (.int .u32 (wi v)))
 have P:Blk (R.drew.setCell ⟨X,b,none⟩ (.int .u32 (wi v))) X _ 226:=b6.o
 have a8:Hid (w.grownBy (R.drew.setCell ⟨X,b,none⟩ (.int .u32 (wi v))) (some X)):=jh a8.o
 have J:=b5.o
 clear b6 b5 p3 r3 f3 s3 Q H
 generalize (R.drew.setCell ⟨X,b,none⟩ (.int .u32 (wi v)))=W at*
 obtain⟨f,a4⟩:=nxq (j+v)
 have s4:IntKind.u32.wrap (wi j+wi v)=wi f:=by rw[a4];exact zci _ _
 have p4:=zeb P J.ea J.len x
 have r4:=zeb P J.eb J.len y
 have f4:=P.free a
 obtain⟨b2,be,ah,bq⟩:=jq4 (qi_set P a f) (J.set_a x q l t p k n f) (zbo (zav (a8.o) a (.int .u32 (wi f))) 1) a4
 clear a4
 go_wp2_with fail
 go_region
 go_upto_region 5 with(fail)
 change Code.wp _ _ _ _ (W.setCell ⟨X,a,none⟩ (.int .u32 (wi f))).drew
 have Z:Blk (W.setCell ⟨X,a,none⟩ (.int .u32 (wi f))).drew X _ 226:=b2.o
 have ah:Hid (w.grownBy (W.setCell ⟨X,a,none⟩ (.int .u32 (wi f))).drew (some X)):=jh ah.o
 have D:=be.o
 clear b2 be p4 r4 f4 s4 P J
 generalize (W.setCell ⟨X,a,none⟩ (.int .u32 (wi f))).drew=S at*
 obtain⟨x5,aj⟩:=nxq (u^^^f)
 have s5:bits .xor .u32 (wi u) (wi f)=wi x5:=by rw[aj];exact zdm _ _
 obtain⟨r,a6⟩:=nxq (rotl x5 8)
 have bb:=fun w=>jh (rol_any x5 8 (by omega) w)
 rw[←a6]at bb
 have p5:=zeb Z D.ed D.len B
 have r5:=zeb Z D.ea D.len x
 have f5:=Z.free d
 obtain⟨b3,b9,ae,bt⟩:=jq4 (qi_set Z d r) (D.set_d B q l t p k n r) (zbo (zav (ah.o) d (.int .u32 (wi r))) 1) a6
 clear a6
 have bg:=jh aj
 clear aj
 go_wp2_with fail
 refine wp_region_still_tail 16 (by kernel_rfl) (by kernel_rfl) ?_
 simp only[q173,List.take_zero,List.drop_succ_cons,List.drop_zero]
 repeat still_step
 still_call ((bb _).o.mono fun _ _ h=>⟨h.1,h.2.symm⟩)
 repeat still_step
 refine wpStill_nil ?_
 change wpList _ _ _ _ _ S.drew
 go_upto_region 6 with(fail)
 change Code.wp _ _ _ _ (S.drew.setCell ⟨X,d,none⟩ (.int .u32 (wi r)))
 have O:Blk (S.drew.setCell ⟨X,d,none⟩ (.int .u32 (wi r))) X _ 226:=b3.o
 have ae:Hid (w.grownBy (S.drew.setCell ⟨X,d,none⟩ (.int .u32 (wi r))) (some X)):=jh ae.o
 have I:=b9.o
 clear b3 b9 p5 r5 f5 s5 Z D
 generalize (S.drew.setCell ⟨X,d,none⟩ (.int .u32 (wi r)))=w6 at*
 obtain⟨g,af⟩:=nxq (m+r)
 have s6:IntKind.u32.wrap (wi m+wi r)=wi g:=by rw[af];exact zci _ _
 have p6:=zeb O I.ec I.len A
 have r6:=zeb O I.ed I.len B
 have f6:=O.free c
 obtain⟨av,bc,a5,bi⟩:=jq4 (qi_set O c g) (I.set_c A q l t p k n g) (zbo (zav (ae.o) c (.int .u32 (wi g))) 1) af
 clear af
 go_wp2_with fail
 go_region
 go_upto_region 7 with(fail)
 change Code.wp _ _ _ _ (w6.setCell ⟨X,c,none⟩ (.int .u32 (wi g))).drew
 have a2:Blk (w6.setCell ⟨X,c,none⟩ (.int .u32 (wi g))).drew X _ 226:=av.o
 have a5:Hid (w.grownBy (w6.setCell ⟨X,c,none⟩ (.int .u32 (wi g))).drew (some X)):=jh a5.o
 have Y:=bc.o
 clear av bc p6 r6 f6 s6 O I
 generalize (w6.setCell ⟨X,c,none⟩ (.int .u32 (wi g))).drew=w7 at*
 obtain⟨x7,ao⟩:=nxq (v^^^g)
 have s7:bits .xor .u32 (wi v) (wi g)=wi x7:=by rw[ao];exact zdm _ _
 obtain⟨G,ac⟩:=nxq (rotl x7 7)
 have az:=fun w=>jh (rol_any x7 7 (by omega) w)
 rw[←ac]at az
 have p7:=zeb a2 Y.eb Y.len y
 have r7:=zeb a2 Y.ec Y.len A
 have f7:=a2.free b
 obtain⟨bj,bu,bm,bp⟩:=jq4 (qi_set a2 b G) (Y.set_b y q l t p k n G) (zbo (zav (a5.o) b (.int .u32 (wi G))) 1) ac
 clear ac
 have bs:=jh ao
 clear ao
 go_wp2_with fail
 refine wp_region_still_tail 16 (by kernel_rfl) (by kernel_rfl) ?_
 simp only[q173,List.take_zero,List.drop_succ_cons,List.drop_zero]
 repeat still_step
 still_call ((az _).o.mono fun _ _ h=>⟨h.1,h.2.symm⟩)
 repeat still_step
 refine wpStill_nil ?_
 change wpList _ _ _ _ _ w7.drew
 go_wp2_with fail
 have hq:QI s a b c d (qrt s a b c d) f G g r:=by
  have q0:QI s a b c d s U z N K:=⟨hs,aw.o.symm,aq.o.symm,b7.o.symm,ba.o.symm,fun i _ _ _ _=>rfl⟩
  have e1:=bh.o
  have e2:=bl.o
  have e3:=bv.o
  have e4:=br.o
  have e5:=bq.o
  have e6:=bt.o
  have e7:=bi.o
  have e8:=bp.o
  have y1:=bo.o
  have y3:=bn.o
  have y5:=bg.o
  have y7:=bs.o
  have bk:qr4 U z N K=(f,G,g,r):=by
   rw[e8,y7,e7,e6,y5,e5,e4,y3,e3,e2,y1,e1]
   rfl
  have h:=((((q0.set_a x q l t p k n f).set_b y q l t p k n G).set_c A q l t p k n g).set_d B q l t p k n r)
  unfold qrt
  rw[←aw.o,←aq.o,←b7.o,←ba.o,bk]
  exact h
 have hL:=bu.o.eq hq
 have hB:=bj.o
 rw[hL]at hB
 refine bodyPost_end (results_none rfl _ _ _) rfl ?_
 exact⟨rfl,hB.drewN 1,bm.o⟩
theorem or_u32L(a b:Nat)(f:a<4294967296)(c:b<4294967296):bits .or .u32 (a:Int) (b:Int)=((a|||b:Nat):Int):=by
 have g:(BitVec.ofInt 32 (a:Int)).toNat=a:=by rw[BitVec.toNat_ofInt];omega
 have d:(BitVec.ofInt 32 (b:Int)).toNat=b:=by rw[BitVec.toNat_ofInt];omega
 show IntKind.u32.wrap ((BitVec.ofInt 32 (a:Int)|||BitVec.ofInt 32 (b:Int)).toNat:Nat)=_
 have e:a|||b<2^32:=Nat.or_lt_two_pow f c
 rw[BitVec.toNat_or,g,d,wrap_nat,q123 e]
theorem or4L(b a c d:Nat)(h0:b<256)(h1:a<256)(h2:c<256)(k:d<256):
  bits .or .u32 (bits .or .u32 (bits .or .u32 (b:Int) ((a:Int)*256)) ((c:Int)*65536)) ((d:Int)*16777216)=wi (BitVec.ofNat 32 (b+256*a+65536*c+16777216*d)):=by
 have i:(a:Int)*256=((256*a:Nat):Int):=by omega
 have g:(c:Int)*65536=((65536*c:Nat):Int):=by omega
 have f:(d:Int)*16777216=((16777216*d:Nat):Int):=by omega
 have j:b|||256*a=b+256*a:=(Nat.or_comm _ _).trans ((or_sum 8 b a h0).trans (Nat.add_comm _ _))
 have e:b+256*a|||65536*c=b+256*a+65536*c:=(Nat.or_comm _ _).trans ((or_sum 16 (b+256*a) c (by omega)).trans (Nat.add_comm _ _))
 have h:b+256*a+65536*c|||16777216*d=b+256*a+65536*c+16777216*d:=(Nat.or_comm _ _).trans ((or_sum 24 (b+256*a+65536*c) d (by omega)).trans (Nat.add_comm _ _))
 rw[i,g,f,or_u32L _ _ (by omega) (by omega),j,or_u32L _ _ (by omega) (by omega),e,or_u32L _ _ (by omega) (by omega),h,wi_lit _ (by omega)]
/-- A word is read off four bytes of a block. -/
theorem little_any(c off len cap:Nat)(cs:List UInt8)(t:TypeId)(w:World)(hb:Blk w c (cs.map bval) t)(hl:off+4≤cs.length)(h4:4≤len):
  Calls Tryz.prog 183 #[.slice (some ⟨c,off,none⟩) len cap] w fun e w'=>e=.returned (.int .u32 (wi (leW cs off)))∧w'=w.drew:=by
 have cc:∀j,j≤3→w.cell? ⟨c,off+j,none⟩=some (.int .u8 ((cs.getD (off+j) 0).toNat:Int)):=fun j hj=>by
  rw[hb.cell,zbg (by omega)]
 have c0:=cc 0 (by omega)
 have c1:=cc 1 (by omega)
 have c2:=cc 2 (by omega)
 have c3:=cc 3 (by omega)
 simp only[q149]at c0
 have d0:=UInt8.toNat_lt (cs.getD off 0)
 have d1:=UInt8.toNat_lt (cs.getD (off+1) 0)
 have d2:=UInt8.toNat_lt (cs.getD (off+2) 0)
 have d3:=UInt8.toNat_lt (cs.getD (off+3) 0)
 have HBE:Hid (leW cs off=BitVec.ofNat 32 ((cs.getD off 0).toNat+256*(cs.getD (off+1) 0).toNat+65536*(cs.getD (off+2) 0).toNat+16777216*(cs.getD (off+3) 0).toNat)):=jh rfl
 generalize (cs.getD off 0).toNat=x0 at*
 generalize (cs.getD (off+1) 0).toNat=x1 at*
 generalize (cs.getD (off+2) 0).toNat=x2 at*
 generalize (cs.getD (off+3) 0).toNat=x3 at*
 clear cc hb hl
 have i0:(0:Int)<(len:Int)∧(1:Int)<(len:Int)∧(2:Int)<(len:Int)∧(3:Int)<(len:Int):=by omega
 obtain⟨i0,i1,i2,i3⟩:=i0
 go_enter Tryz.func183,Tryz.ntmps183
 go_wp2_with fail
 go_region
 go_wp2_with fail
 go_ret
 exact⟨by rw[HBE.o,←or4L x0 x1 x2 x3 d0 d1 d2 d3];rfl,rfl⟩
def chaK(key:List UInt8):Nat→List W32
 |0=>[0x61707865#32,0x3320646e#32,0x79622d32#32,0x6b206574#32,0,0,0,0,0,0,0,0,0,0,0,0]
 |k+1=>(chaK key k).set (4+k) (leW key (4*k))
def chaN(key:List UInt8)(ctr:W32)(nonce:List UInt8):Nat→List W32
 |0=>(chaK key 8).set 12 ctr
 |k+1=>(chaN key ctr nonce k).set (13+k) (leW nonce (4*k))
theorem chaK_length(key:List UInt8):∀k,(chaK key k).length=16
 |0=>rfl
 |k+1=>by rw[chaK,q125,chaK_length key k]
theorem chaN_length(key:List UInt8)(b:W32)(a:List UInt8):∀k,(chaN key b a k).length=16
 |0=>by rw[chaN,q125,chaK_length]
 |k+1=>by rw[chaN,q125,chaN_length key b a k]
theorem chaN_full(key:List UInt8)(b:W32)(a:List UInt8):chaN key b a 3=chaInit key b a:=rfl
theorem and_mask32(a:Int)(h1: -9223372036854775808≤a)(h2:a≤9223372036854775807):bits .and .i64 a 4294967295=a%4294967296:=by
 have h:(BitVec.ofInt 64 4294967295).toNat=2^32 - 1:=by decide
 have key:(BitVec.ofInt 64 a &&& BitVec.ofInt 64 4294967295).toNat=(a%((2^64:Nat):Int)).toNat%2^32:=by
  rw[BitVec.toNat_and,BitVec.toNat_ofInt,h,q142]
 show IntKind.i64.wrap ((BitVec.ofInt 64 a &&& BitVec.ofInt 64 4294967295).toNat:Nat)=_
 rw[key,IntKind.wrap_i64]
 omega
theorem ctr_word(a:Int):IntKind.u32.wrap (a%4294967296)=wi (BitVec.ofInt 32 a):=by
 unfold wi
 rw[BitVec.toNat_ofInt,IntKind.wrap_u32]
 omega
theorem set_word {w:World} {S:Nat} {l:List W32} {t:TypeId}(h:Blk w S (ints .u32 (ws l)) t)(i:Nat)(z:Int)(v:W32)(a:z=wi v):Blk (w.setCell ⟨S,i,none⟩ (.int .u32 z)) S (ints .u32 (ws (l.set i v))) t:=by
 subst a
 rw[←ws_set]
 exact h.seti i _
theorem zeo {w:World} {S i:Nat} {l:List W32} {t:TypeId}(h:Blk w S (ints .u32 (ws l)) t)(a:i<l.length):w.cell? ⟨S,i,none⟩=some (.int .u32 (wi (l.getD i 0#32))):=by
 rw[h.cell,zas (by rw[zaw];exact a),zea]
theorem cut_arrL {t:TypeId} {n:Nat} {e:TypeId}(ht:Tryz.prog.underlying t=some (.array n e))(h:∀w,(sizeOf e).run Tryz.prog w=.ok 1 w)(w:World)(A p:Nat)(c:p<n):
  (Instr.sliceAt t (.pointer (some ⟨A,0,none⟩)) (some (.int .i64 (p:Int))) none none).run Tryz.prog w=.ok (.slice (some ⟨A,p,none⟩) (n - p) (n - p)) w:=by
 have a:Tryz.prog.arrayLen t=n:=by unfold Program.arrayLen;rw[ht]
 have b:Tryz.prog.elem t=e:=by unfold Program.elem;rw[ht]
 rw[run_sliceAt_array_l w t ⟨A,0,none⟩ (by rw[a,b];exact ht) .i64 (p:Int) (by omega) (by rw[a];omega),b,h,a]
 simp[slicedAt,Addr.add,show ¬n=p by omega]
 exact fun h=>h.symm
theorem and_u32_255(n:Nat):bits .and .u32 (n:Int) 255=((n%256:Nat):Int):=by
 have h:(BitVec.ofInt 32 255).toNat=2^8 - 1:=by decide
 have key:(BitVec.ofInt 32 (n:Int) &&& BitVec.ofInt 32 255).toNat=((n:Int)%((2^32:Nat):Int)).toNat%2^8:=by
  rw[BitVec.toNat_and,BitVec.toNat_ofInt,h,q142]
 show IntKind.u32.wrap ((BitVec.ofInt 32 (n:Int) &&& BitVec.ofInt 32 255).toNat:Nat)=_
 rw[key,IntKind.wrap_u32]
 omega
theorem word_byte(a:W32)(r:Nat)(y:UInt8)(h:y=UInt8.ofNat (a.toNat / 2^(8*r)%256)):bits .and .u32 (wi a / 2^(8*r)) 255%256=(y.toNat:Int):=by
 have e:wi a / 2^(8*r)=((a.toNat / 2^(8*r):Nat):Int):=by
  unfold wi
  rw[Int.natCast_ediv,Int.natCast_pow]
  rfl
 rw[e,and_u32_255,h]
 have:(UInt8.ofNat (a.toNat / 2^(8*r)%256)).toNat=a.toNat / 2^(8*r)%256:=UInt8.toNat_ofNat_of_lt' (by show _<256;omega)
 rw[this]
 omega
theorem leB_getD(h:List W32) {n i:Nat}(a:i<n):(leB h n).getD i 0=UInt8.ofNat ((h.getD (i / 4) 0#32).toNat / 2^(8*(i%4))%256):=by
 unfold leB
 rw[List.getD_eq_getElem?_getD,List.getElem?_map,List.getElem?_range a]
 rfl
theorem far_ext {w a:World} {S i:Nat} {v:Value}(h:Ext w a)(b:w.heap.size≤S):Ext w (a.setCell ⟨S,i,none⟩ v):=Below.setCell h b _
theorem zel(X:Nat)(s t:List W32)(a b c d:Nat)(g j i id:Int)(w:World)(v:Blk w X (ints .u32 (ws s)) 226)(p:s.length=16)(y:g=a)(l:j=b)(u:i=c)(A:id=d)(ht:qrt s a b c d=t)
  (h:a<16∧b<16∧c<16∧d<16∧a≠b∧a≠c∧a≠d∧b≠c∧b≠d∧c≠d):
  Calls Tryz.prog 184 #[.pointer (some ⟨X,0,none⟩),.int .i64 g,.int .i64 j,.int .i64 i,.int .i64 id] w fun e f=>e=.returned (.tuple #[])∧Blk f X (ints .u32 (ws t)) 226∧w.grownBy f (some X):=by
 subst y l u A ht
 obtain⟨h1,h2,m,B,r,x,k,n,z,q⟩:=h
 exact quarter_any X s a b c d w v p h1 h2 m B r x k n z q
theorem rBlock_any(t nb:List UInt8)(c:Int)(w:World)(N:t.length=32)(hn:nb.length=12)(b3: -9223372036854775808≤c)(av:c≤9223372036854775807):
  Calls Tryz.prog 168 #[.agg (t.map bval).toArray,.int .i64 c,.agg (nb.map bval).toArray] w fun e w'=>e=.returned (.agg ((chaBlock t (BitVec.ofInt 32 c) nb).map bval).toArray)∧Below w.heap.size w w':=by
 obtain⟨bp,an,HB,aw,ag⟩:=jq5 N hn (boxes4 w (t.map bval) (nb.map bval) (ints .u8 (List.replicate 64 0)) (ints .u32 (ws (List.replicate 16 0#32))) 23 145 26 226) (and_mask32 c b3 av) (ctr_word c)
 obtain⟨G,af⟩:=nxq (BitVec.ofInt 32 c)
 have ar:=jh af
 rw[←af]at ag
 clear N hn b3 av af
 go_enter Tryz.func168,Tryz.ntmps168
 go_upto_region 2 with(fail)
 obtain⟨n,m,f,b,g⟩:=HB.o
 change Code.wp _ _ _ _ ((((w.alloc (.cells (t.map bval).toArray 23)).alloc (.cells (nb.map bval).toArray 145)).alloc (.cells (ints .u8 (List.replicate 64 0)).toArray 26)).alloc (.cells (ints .u32 (ws (List.replicate 16 0#32))).toArray 226))
 generalize (((w.alloc (.cells (t.map bval).toArray 23)).alloc (.cells (nb.map bval).toArray 145)).alloc (.cells (ints .u8 (List.replicate 64 0)).toArray 26)).alloc (.cells (ints .u32 (ws (List.replicate 16 0#32))).toArray 226)=wa at*
 obtain⟨B,hB⟩:=nxq w.heap.size
 have Q:Hid (w.heap.size≤B):=jh (by omega)
 rw[←hB]at n m f b⊢
 obtain⟨n,m,f,b⟩:=jq4 n m f b
 have g:Hid (Ext w wa):=jh g
 clear hB HB
 obtain⟨S,hS⟩:=nxq (B+1+1+1)
 have p:Hid (B+3≤S∧S≤B+3):=jh (by omega)
 rw[←hS]at b⊢
 clear hS
 obtain⟨R,hR⟩:=nxq (B+1+1)
 have P:Hid (B+2≤R∧R≤B+2):=jh (by omega)
 rw[←hR]at f⊢
 clear hR
 have f0:=b.o.free 0
 obtain⟨u0,c0⟩:∃u,wa.cell? ⟨S,0,none⟩=some u:=⟨_,zeo b.o (by simp)⟩
 have bm:=jh (set_word b.o 0 1634760805 0x61707865#32 rfl)
 have F:=jh (far_ext (S:=S) (i:=0) (v:=.int .u32 1634760805) g.o (by have:=Q.o;have:=p.o;omega))
 have J:=jh (n.o.far (a:=⟨S,0,none⟩) (by have:=p.o;simp;omega) (.int .u32 1634760805))
 have I:=jh (m.o.far (a:=⟨S,0,none⟩) (by have:=p.o;simp;omega) (.int .u32 1634760805))
 have E:=jh (f.o.far (a:=⟨S,0,none⟩) (by have:=p.o;have:=P.o;simp;omega) (.int .u32 1634760805))
 go_upto_region 3 with(fail)
 clear n m f b g f0 c0
 generalize wa.setCell ⟨S,0,none⟩ (.int .u32 1634760805)=bi at*
 have n:=J
 have m:=I
 have f:=E
 have b:=bm
 have g:=F
 clear J I E bm F
 have f1:=b.o.free 1
 obtain⟨u1,c1⟩:∃u,bi.cell? ⟨S,1,none⟩=some u:=⟨_,zeo b.o (by simp)⟩
 have au:=jh (set_word b.o 1 857760878 0x3320646e#32 rfl)
 have F:=jh (far_ext (S:=S) (i:=1) (v:=.int .u32 857760878) g.o (by have:=Q.o;have:=p.o;omega))
 have J:=jh (n.o.far (a:=⟨S,1,none⟩) (by have:=p.o;simp;omega) (.int .u32 857760878))
 have I:=jh (m.o.far (a:=⟨S,1,none⟩) (by have:=p.o;simp;omega) (.int .u32 857760878))
 have E:=jh (f.o.far (a:=⟨S,1,none⟩) (by have:=p.o;have:=P.o;simp;omega) (.int .u32 857760878))
 go_upto_region 4 with(fail)
 clear n m f b g f1 c1
 generalize bi.setCell ⟨S,1,none⟩ (.int .u32 857760878)=al at*
 have n:=J
 have m:=I
 have f:=E
 have b:=au
 have g:=F
 clear J I E au F
 have f2:=b.o.free 2
 obtain⟨u2,c2⟩:∃u,al.cell? ⟨S,2,none⟩=some u:=⟨_,zeo b.o (by simp)⟩
 have ay:=jh (set_word b.o 2 2036477234 0x79622d32#32 rfl)
 have F:=jh (far_ext (S:=S) (i:=2) (v:=.int .u32 2036477234) g.o (by have:=Q.o;have:=p.o;omega))
 have J:=jh (n.o.far (a:=⟨S,2,none⟩) (by have:=p.o;simp;omega) (.int .u32 2036477234))
 have I:=jh (m.o.far (a:=⟨S,2,none⟩) (by have:=p.o;simp;omega) (.int .u32 2036477234))
 have E:=jh (f.o.far (a:=⟨S,2,none⟩) (by have:=p.o;have:=P.o;simp;omega) (.int .u32 2036477234))
 go_upto_region 5 with(fail)
 clear n m f b g f2 c2
 generalize al.setCell ⟨S,2,none⟩ (.int .u32 2036477234)=b7 at*
 have n:=J
 have m:=I
 have f:=E
 have b:=ay
 have g:=F
 clear J I E ay F
 have f3:=b.o.free 3
 obtain⟨u3,c3⟩:∃u,b7.cell? ⟨S,3,none⟩=some u:=⟨_,zeo b.o (by simp)⟩
 have b8:=jh (set_word b.o 3 1797285236 0x6b206574#32 rfl)
 have F:=jh (far_ext (S:=S) (i:=3) (v:=.int .u32 1797285236) g.o (by have:=Q.o;have:=p.o;omega))
 have J:=jh (n.o.far (a:=⟨S,3,none⟩) (by have:=p.o;simp;omega) (.int .u32 1797285236))
 have I:=jh (m.o.far (a:=⟨S,3,none⟩) (by have:=p.o;simp;omega) (.int .u32 1797285236))
 have E:=jh (f.o.far (a:=⟨S,3,none⟩) (by have:=p.o;have:=P.o;simp;omega) (.int .u32 1797285236))
 go_upto_region 6 with(fail)
 clear n m f b g f3 c3
 generalize b7.setCell ⟨S,3,none⟩ (.int .u32 1797285236)=bw at*
 have n:=J
 have m:=I
 have f:=E
 have b:=b8
 have g:=F
 clear J I E b8 F
 have b:Hid (Blk bw S (ints .u32 (ws (chaK t 0))) 226):=jh b.o
 go_wp2_with fail
 go_loopw [8] (fun H wr=>∃(k:Nat),k≤8∧H=.int .i64 (k:Int)∧Blk wr B (t.map bval) 23∧Blk wr (B+1) (nb.map bval) 145∧Blk wr R (ints .u8 (List.replicate 64 0)) 26∧Blk wr S (ints .u32 (ws (chaK t k))) 226∧Ext w wr) (fun H _=>8 - (intOf H).toNat)
 case atStart=>exact⟨0,by omega,rfl,n.o,m.o,f.o,b.o,g.o⟩
 case round=>
  clear n m f b g
  obtain⟨k,N,rfl,L,M,D,A,C⟩:=hrel
  have k0:(0:Int)≤(k:Int):=Int.natCast_nonneg _
  by_cases W:k<8
  ·have k1:(k:Int)<8:=by omega
   have hs:=cut_arrL q102 q111 wr (B) (4*k) (by omega)
   have e4:((4*k:Nat):Int)=4*(k:Int):=by omega
   rw[e4]at hs
   have HW:=jh (little_any (B) (4*k) (32 - 4*k) (32 - 4*k) t 23 wr L (by have:=bp.o;omega) (by omega))
   obtain⟨n,m,f,b,g⟩:=jq5 L M D A C
   clear L M D A C e4
   go_wp2_with fail
   refine HW.o.mono ?_
   rintro e U ⟨rfl,rfl⟩
   have n:Hid (Blk wr.drew B (t.map bval) 23):=jh n.o
   have m:Hid (Blk wr.drew (B+1) (nb.map bval) 145):=jh m.o
   have f:Hid (Blk wr.drew R (ints .u8 (List.replicate 64 0)) 26):=jh f.o
   have b:Hid (Blk wr.drew S (ints .u32 (ws (chaK t k))) 226):=jh b.o
   have g:Hid (Ext w wr.drew):=jh (g.o.trans (Ext.drew _))
   clear HW hs
   generalize wr.drew=U at*
   have f0:=b.o.free (4+k)
   obtain⟨u,c0⟩:∃u,U.cell? ⟨S,4+k,none⟩=some u:=⟨_,zeo b.o (by rw[chaK_length];omega)⟩
   have i0:(0:Int)≤4+(k:Int):=by omega
   have i1:(4:Int)+(k:Int)<16:=by omega
   have i2:((4:Int)+(k:Int)).toNat=4+k:=by omega
   have Z:Hid (Blk (U.setCell ⟨S,4+k,none⟩ (.int .u32 (wi (leW t (4*k))))) S (ints .u32 (ws (chaK t (k+1)))) 226):=jh (set_word b.o (4+k) _ (leW t (4*k)) rfl)
   generalize leW t (4*k)=lw at*
   go_wp2_with fail
   go_roundw
   case rel=>exact⟨k+1,by omega,by go_num,n.o.far (by have:=p.o;simp;omega) _,m.o.far (by have:=p.o;simp;omega) _,f.o.far (by have:=p.o;have:=P.o;simp;omega) _,Z.o,far_ext g.o (by have:=Q.o;have:=p.o;omega)⟩
   case measure=>simp[intOf];omega
  have V:k=8:=by omega
  subst V
  rw[show ((8:Nat):Int)=8 from rfl]
  obtain⟨n,m,f,b,g⟩:=jq5 L M D A C
  clear L M D A C k0 N
  have f0:=b.o.free 12
  obtain⟨u,c0⟩:∃u,wr.cell? ⟨S,12,none⟩=some u:=⟨_,zeo b.o (by rw[chaK_length];omega)⟩
  have Z:Hid (Blk (wr.setCell ⟨S,12,none⟩ (.int .u32 (wi G))) S (ints .u32 (ws (chaN t G nb 0))) 226):=jh (set_word b.o 12 _ G rfl)
  have c7:=aw.o
  have c5:=ag.o
  have J:=jh (n.o.far (a:=⟨S,12,none⟩) (by have:=p.o;simp;omega) (.int .u32 (wi G)))
  have I:=jh (m.o.far (a:=⟨S,12,none⟩) (by have:=p.o;simp;omega) (.int .u32 (wi G)))
  have E:=jh (f.o.far (a:=⟨S,12,none⟩) (by have:=p.o;have:=P.o;simp;omega) (.int .u32 (wi G)))
  have F:Hid (Ext w (wr.setCell ⟨S,12,none⟩ (.int .u32 (wi G)))):=jh (far_ext g.o (by have:=Q.o;have:=p.o;omega))
  go_upto_region 11 with(fail)
  clear n m f b g f0 c0 c7 c5
  generalize wr.setCell ⟨S,12,none⟩ (.int .u32 (wi G))=w6 at*
  have n:=J
  have m:=I
  have f:=E
  have b:=Z
  have g:=F
  clear J I E Z F
  go_wp2_with fail
  go_loopw [9] (fun H wr=>∃(k:Nat),k≤3∧H=.int .i64 (k:Int)∧Blk wr B (t.map bval) 23∧Blk wr (B+1) (nb.map bval) 145∧Blk wr R (ints .u8 (List.replicate 64 0)) 26∧Blk wr S (ints .u32 (ws (chaN t G nb k))) 226∧Ext w wr) (fun H _=>3 - (intOf H).toNat)
  case atStart=>exact⟨0,by omega,rfl,n.o,m.o,f.o,b.o,g.o⟩
  case round=>
   clear n m f b g
   obtain⟨k,N,rfl,L,M,D,A,C⟩:=hrel
   have k0:(0:Int)≤(k:Int):=Int.natCast_nonneg _
   by_cases W:k<3
   ·have k1:(k:Int)<3:=by omega
    have hs:=cut_arrL q170 q111 wr ((B+1)) (4*k) (by omega)
    have e4:((4*k:Nat):Int)=4*(k:Int):=by omega
    rw[e4]at hs
    have HW:=jh (little_any ((B+1)) (4*k) (12 - 4*k) (12 - 4*k) nb 145 wr M (by have:=an.o;omega) (by omega))
    obtain⟨n,m,f,b,g⟩:=jq5 L M D A C
    clear L M D A C e4
    go_wp2_with fail
    refine HW.o.mono ?_
    rintro e U ⟨rfl,rfl⟩
    have n:Hid (Blk wr.drew B (t.map bval) 23):=jh n.o
    have m:Hid (Blk wr.drew (B+1) (nb.map bval) 145):=jh m.o
    have f:Hid (Blk wr.drew R (ints .u8 (List.replicate 64 0)) 26):=jh f.o
    have b:Hid (Blk wr.drew S (ints .u32 (ws (chaN t G nb k))) 226):=jh b.o
    have g:Hid (Ext w wr.drew):=jh (g.o.trans (Ext.drew _))
    clear HW hs
    generalize wr.drew=U at*
    have f0:=b.o.free (13+k)
    obtain⟨u,c0⟩:∃u,U.cell? ⟨S,13+k,none⟩=some u:=⟨_,zeo b.o (by rw[chaN_length];omega)⟩
    have i0:(0:Int)≤13+(k:Int):=by omega
    have i1:(13:Int)+(k:Int)<16:=by omega
    have i2:((13:Int)+(k:Int)).toNat=13+k:=by omega
    have Z:Hid (Blk (U.setCell ⟨S,13+k,none⟩ (.int .u32 (wi (leW nb (4*k))))) S (ints .u32 (ws (chaN t G nb (k+1)))) 226):=jh (set_word b.o (13+k) _ (leW nb (4*k)) rfl)
    generalize leW nb (4*k)=lw at*
    go_wp2_with fail
    go_roundw
    case rel=>exact⟨k+1,by omega,by go_num,n.o.far (by have:=p.o;simp;omega) _,m.o.far (by have:=p.o;simp;omega) _,f.o.far (by have:=p.o;have:=P.o;simp;omega) _,Z.o,far_ext g.o (by have:=Q.o;have:=p.o;omega)⟩
    case measure=>simp[intOf];omega
   have V:k=3:=by omega
   subst V
   rw[show ((3:Nat):Int)=3 from rfl]
   obtain⟨n,m,f,b,g⟩:=jq5 L M D A C
   clear L M D A C k0 N
   rw[chaN_full]at b
   have a1:=jh (chaInit_length t G nb)
   have bt:Hid (leB (wAdd (dRun (chaInit t G nb) 10) (chaInit t G nb)) 64=chaBlock t (BitVec.ofInt 32 c) nb):=jh (by rw[←ar.o];rfl)
   generalize chaInit t G nb=s at*
   have HZ:=jh (Blk.made wr (ints .u32 (ws (List.replicate 16 0#32))) 226)
   have K:=Ext.alloc wr (.cells (ints .u32 (ws (List.replicate 16 0#32))).toArray 226)
   have f:=xxb f K
   obtain⟨ad,ah⟩:=jq2 g.o.size b.o.lt
   have ae:Hid (R<wr.heap.size):=jh (by have:=p.o;have:=P.o;have:=b.o.lt;omega)
   have br:=xxb b K
   have g:=xxt g K
   have ai:Hid ((Tryz.prog.info? 226).map (·.size)=some (ints .u32 (ws s)).length):=jh (by rw[zaa,zaw,a1.o];kernel_rfl)
   have bh:Hid ((ints .u32 (ws s)).length=(ints .u32 (ws (List.replicate 16 0#32))).length):=jh (by rw[zaa,zaw,a1.o,zaa,zaw,q112])
   clear K n m bp an aw ag ar
   go_upto_region 16 with(first|(refine slb S b.o Tryz.underlying226 ai.o ?_)|(refine ssb wr.heap.size (ints .u32 (ws s)) HZ.o bh.o ai.o (zah _ _) ?_;intro w7 b2 a8))
   have f:=jh (f.o.grown a8 (fun e=>by have h:=Option.some.inj e;have:=ae.o;omega))
   have b:=jh (br.o.grown a8 (fun e=>by have h:=Option.some.inj e;have:=ah.o;omega))
   obtain⟨g,q⟩:=jq2 (zab g.o a8 ad.o) b2
   obtain⟨X,hX⟩:=nxq wr.heap.size
   have y:Hid (w.heap.size≤X∧S<X∧R<X):=jh (by have:=ad.o;have:=ah.o;have:=ae.o;omega)
   rw[←hX]at q⊢
   clear b2 a8 HZ br ad ah ae ai bh hX
   go_wp2_with fail
   go_loopw [11] (fun H wr=>∃(k:Nat),k≤10∧H=.int .i64 (k:Int)∧Blk wr R (ints .u8 (List.replicate 64 0)) 26∧Blk wr S (ints .u32 (ws s)) 226∧Blk wr X (ints .u32 (ws (dRun s k))) 226∧Ext w wr) (fun H _=>10 - (intOf H).toNat)
   case atStart=>exact⟨0,by omega,rfl,f.o,b.o,q.o,g.o⟩
   case round=>
    clear f b q g
    obtain⟨k,N,rfl,D,A,O,C⟩:=hrel
    have k0:(0:Int)≤(k:Int):=Int.natCast_nonneg _
    by_cases W:k<10
    ·have k1:(k:Int)<10:=by omega
     have HD:Hid (dround (dRun s k)=dRun s (k+1)):=jh rfl
     have be:Hid ((dRun s k).length=16):=jh (by rw[dRun_length];exact a1.o)
     obtain⟨f,b,q,g⟩:=jq4 D A O C
     clear D A O C
     generalize dRun s k=q0 at*
     obtain⟨q1,a3⟩:=nxq (qrt q0 0 4 8 12)
     have bj:=jh (zel X q0 q1 0 4 8 12 0 4 8 12 _ q.o be.o rfl rfl rfl rfl a3.symm (by decide))
     have bc:Hid (q1.length=16):=jh (by rw[a3,zdx];exact be.o)
     have bf:=jh a3
     clear a3
     go_wp2_with fail
     refine bj.o.mono ?_
     rintro e v1 ⟨rfl,z,l⟩
     have f:=jh (f.o.grown l (fun e=>by have h:=Option.some.inj e;have:=y.o;omega))
     have b:=jh (b.o.grown l (fun e=>by have h:=Option.some.inj e;have:=y.o;omega))
     obtain⟨g,q⟩:=jq2 (zab g.o l y.o.1) z
     clear z l bj
     obtain⟨q2,a7⟩:=nxq (qrt q1 1 5 9 13)
     have b1:=jh (zel X q1 q2 1 5 9 13 1 5 9 13 _ q.o bc.o rfl rfl rfl rfl a7.symm (by decide))
     have ap:Hid (q2.length=16):=jh (by rw[a7,zdx];exact bc.o)
     have b6:=jh a7
     clear a7
     go_wp2_with fail
     refine b1.o.mono ?_
     rintro e v2 ⟨rfl,z,l⟩
     have f:=jh (f.o.grown l (fun e=>by have h:=Option.some.inj e;have:=y.o;omega))
     have b:=jh (b.o.grown l (fun e=>by have h:=Option.some.inj e;have:=y.o;omega))
     obtain⟨g,q⟩:=jq2 (zab g.o l y.o.1) z
     clear z l b1
     obtain⟨q3,a9⟩:=nxq (qrt q2 2 6 10 14)
     have b0:=jh (zel X q2 q3 2 6 10 14 2 6 10 14 _ q.o ap.o rfl rfl rfl rfl a9.symm (by decide))
     have aj:Hid (q3.length=16):=jh (by rw[a9,zdx];exact ap.o)
     have bg:=jh a9
     clear a9
     go_wp2_with fail
     refine b0.o.mono ?_
     rintro e v3 ⟨rfl,z,l⟩
     have f:=jh (f.o.grown l (fun e=>by have h:=Option.some.inj e;have:=y.o;omega))
     have b:=jh (b.o.grown l (fun e=>by have h:=Option.some.inj e;have:=y.o;omega))
     obtain⟨g,q⟩:=jq2 (zab g.o l y.o.1) z
     clear z l b0
     obtain⟨q4,a2⟩:=nxq (qrt q3 3 7 11 15)
     have ba:=jh (zel X q3 q4 3 7 11 15 3 7 11 15 _ q.o aj.o rfl rfl rfl rfl a2.symm (by decide))
     have bn:Hid (q4.length=16):=jh (by rw[a2,zdx];exact aj.o)
     have ao:=jh a2
     clear a2
     go_wp2_with fail
     refine ba.o.mono ?_
     rintro e v4 ⟨rfl,z,l⟩
     have f:=jh (f.o.grown l (fun e=>by have h:=Option.some.inj e;have:=y.o;omega))
     have b:=jh (b.o.grown l (fun e=>by have h:=Option.some.inj e;have:=y.o;omega))
     obtain⟨g,q⟩:=jq2 (zab g.o l y.o.1) z
     clear z l ba
     obtain⟨q5,ab⟩:=nxq (qrt q4 0 5 10 15)
     have bo:=jh (zel X q4 q5 0 5 10 15 0 5 10 15 _ q.o bn.o rfl rfl rfl rfl ab.symm (by decide))
     have aq:Hid (q5.length=16):=jh (by rw[ab,zdx];exact bn.o)
     have bb:=jh ab
     clear ab
     go_wp2_with fail
     refine bo.o.mono ?_
     rintro e v5 ⟨rfl,z,l⟩
     have f:=jh (f.o.grown l (fun e=>by have h:=Option.some.inj e;have:=y.o;omega))
     have b:=jh (b.o.grown l (fun e=>by have h:=Option.some.inj e;have:=y.o;omega))
     obtain⟨g,q⟩:=jq2 (zab g.o l y.o.1) z
     clear z l bo
     obtain⟨q6,a6⟩:=nxq (qrt q5 1 6 11 12)
     have bk:=jh (zel X q5 q6 1 6 11 12 1 6 11 12 _ q.o aq.o rfl rfl rfl rfl a6.symm (by decide))
     have am:Hid (q6.length=16):=jh (by rw[a6,zdx];exact aq.o)
     have ax:=jh a6
     clear a6
     go_wp2_with fail
     refine bk.o.mono ?_
     rintro e v6 ⟨rfl,z,l⟩
     have f:=jh (f.o.grown l (fun e=>by have h:=Option.some.inj e;have:=y.o;omega))
     have b:=jh (b.o.grown l (fun e=>by have h:=Option.some.inj e;have:=y.o;omega))
     obtain⟨g,q⟩:=jq2 (zab g.o l y.o.1) z
     clear z l bk
     obtain⟨q7,aa⟩:=nxq (qrt q6 2 7 8 13)
     have bl:=jh (zel X q6 q7 2 7 8 13 2 7 8 13 _ q.o am.o rfl rfl rfl rfl aa.symm (by decide))
     have b5:Hid (q7.length=16):=jh (by rw[aa,zdx];exact am.o)
     have b4:=jh aa
     clear aa
     go_wp2_with fail
     refine bl.o.mono ?_
     rintro e v7 ⟨rfl,z,l⟩
     have f:=jh (f.o.grown l (fun e=>by have h:=Option.some.inj e;have:=y.o;omega))
     have b:=jh (b.o.grown l (fun e=>by have h:=Option.some.inj e;have:=y.o;omega))
     obtain⟨g,q⟩:=jq2 (zab g.o l y.o.1) z
     clear z l bl
     obtain⟨q8,a4⟩:=nxq (qrt q7 3 4 9 14)
     have bq:=jh (zel X q7 q8 3 4 9 14 3 4 9 14 _ q.o b5.o rfl rfl rfl rfl a4.symm (by decide))
     have c9:Hid (q8.length=16):=jh (by rw[a4,zdx];exact b5.o)
     have bd:=jh a4
     clear a4
     go_wp2_with fail
     refine bq.o.mono ?_
     rintro e v8 ⟨rfl,z,l⟩
     have f:=jh (f.o.grown l (fun e=>by have h:=Option.some.inj e;have:=y.o;omega))
     have b:=jh (b.o.grown l (fun e=>by have h:=Option.some.inj e;have:=y.o;omega))
     obtain⟨g,q⟩:=jq2 (zab g.o l y.o.1) z
     clear z l bq
     have bs:Hid (q8=dRun s (k+1)):=jh (by rw[←HD.o,bd.o,b4.o,ax.o,bb.o,ao.o,bg.o,b6.o,bf.o];rfl)
     clear bf b6 bg ao bb ax b4 bd
     go_wp2_with fail
     go_roundw
     case rel=>exact⟨k+1,by omega,by go_num,f.o,b.o,by rw[←bs.o];exact q.o,g.o⟩
     case measure=>simp[intOf];omega
    have V:k=10:=by omega
    subst V
    rw[show ((10:Nat):Int)=10 from rfl]
    obtain⟨f,b,q,g⟩:=jq4 D A O C
    clear D A O C k0 N
    have bz:Hid ((dRun s 10).length=16):=jh (by rw[dRun_length];exact a1.o)
    generalize dRun s 10=x at*
    have a0:Hid ((leB (wAdd x s) 64).length=64):=jh (leB_length _ _)
    have c8:Hid (∀j,j<64→(leB (wAdd x s) 64).getD j 0=UInt8.ofNat ((x.getD (j / 4) 0#32+s.getD (j / 4) 0#32).toNat / 2^(8*(j%4))%256)):=jh (fun j hj=>by
     rw[←wAdd_getD x s (by omega:j / 4<16)]
     exact leB_getD _ hj)
    generalize leB (wAdd x s) 64=o at*
    obtain⟨Y,hY⟩:=nxq wr.heap.size
    have a5:Hid (w.heap.size≤Y∧S<Y∧R<Y∧X<Y):=jh (by have:=g.o.size;have:=b.o.lt;have:=f.o.lt;have:=q.o.lt;omega)
    have K:=Ext.alloc wr (.cells (ints .u8 (List.replicate 64 0)).toArray 26)
    have H6:Hid (Blk (wr.alloc (.cells (ints .u8 (List.replicate 64 0)).toArray 26)) Y ((fill 64 o 0).map bval) 26):=jh (by rw[fill_start,hY];exact Blk.made wr (ints .u8 (List.replicate 64 0)) 26)
    have E:=xxb f K
    have az:=xxb b K
    have b9:=xxb q K
    have F:=xxt g K
    clear K
    go_upto_region 28 with(fail)
    change Code.wp _ _ _ _ (wr.alloc (.cells (ints .u8 (List.replicate 64 0)).toArray 26))
    rw[←hY]
    clear f b q g hY
    generalize wr.alloc (.cells (ints .u8 (List.replicate 64 0)).toArray 26)=w8 at*
    go_wp2_with fail
    go_loopw [13] (fun H wr=>∃(k:Nat),k≤64∧H=.int .i64 (k:Int)∧Blk wr R (ints .u8 (List.replicate 64 0)) 26∧Blk wr S (ints .u32 (ws s)) 226∧Blk wr X (ints .u32 (ws x)) 226∧Blk wr Y ((fill 64 o k).map bval) 26∧Ext w wr) (fun H _=>64 - (intOf H).toNat)
    case atStart=>exact⟨0,by omega,rfl,E.o,az.o,b9.o,H6.o,F.o⟩
    case round=>
     clear E az b9 H6 F
     obtain⟨k,N,rfl,D,A,O,T,C⟩:=hrel
     have k0:(0:Int)≤(k:Int):=Int.natCast_nonneg _
     by_cases W:k<64
     ·have k1:(k:Int)<64:=by omega
      have c1:=zeo O (i:=k / 4) (by rw[bz.o];omega)
      have c2:=zeo A (i:=k / 4) (by rw[a1.o];omega)
      have f3:=T.free k
      have ak:=c8.o k W
      have s1:=zci (x.getD (k / 4) 0#32) (s.getD (k / 4) 0#32)
      generalize x.getD (k / 4) 0#32=xa at*
      generalize s.getD (k / 4) 0#32=sa at*
      generalize c4:xa+sa=va at*
      obtain⟨d,hd⟩:=nxq (k / 4)
      obtain⟨r,hr⟩:=nxq (k%4)
      have q1:(k:Int) / 4=(d:Int):=by omega
      have q2:(k:Int)%4=(r:Int):=by omega
      have q3:(d:Int)<16:=by omega
      have q4:(0:Int)≤(d:Int):=by omega
      have q5:(r:Int)<4:=by omega
      have q6:(0:Int)≤(r:Int):=by omega
      rw[←hd]at c1 c2
      rw[←hr]at ak
      clear hd hr
      obtain⟨u6,c6⟩:∃u,wr.cell? ⟨Y,k,none⟩=some u:=⟨_,by rw[T.cell,zbg (by rw[zeh a0.o (by omega)];exact W)]⟩
      obtain⟨f,b,q,H6,g⟩:=jq5 D A O T C
      clear D A O T C c4
      go_wp2_with fail
      go_region
      go_wp2_with fail
      go_roundw
      case rel=>
       have hz:=word_byte va r _ ak
       refine⟨k+1,by omega,by go_num,f.o.far (by have:=a5.o;simp;omega) _,b.o.far (by have:=a5.o;simp;omega) _,q.o.far (by have:=a5.o;simp;omega) _,?_,(far_ext g.o a5.o.1).trans (Ext.drew _)⟩
       rw[←zdg a0.o W hz]
       exact H6.o.set k _
      case measure=>simp[intOf];omega
     have V:k=64:=by omega
     subst V
     rw[fill_full a0.o]at T
     obtain⟨f,H6,g⟩:=jq3 D T C
     clear D A O T C
     have ac:Hid ((Tryz.prog.info? 26).map (·.size)=some (o.map bval).length):=jh (zep a0.o)
     have bv:Hid ((o.map bval).length=(ints .u8 (List.replicate 64 0)).length):=jh (by rw[q100,a0.o,zaa,q112])
     go_wp2_with (first|(refine slb Y H6.o q126 ac.o ?_)|(refine ssb R (o.map bval) f.o bv.o ac.o (zac _) ?_;intro w9 bu bx))
     refine bodyPost_ret (zam rfl _ R _ _ _ _ rfl bu q126 ac.o) rfl ?_
     exact⟨by rw[bt.o],zab g.o bx (by have:=Q.o;have:=P.o;omega)⟩
theorem Tryz.arr145:(Tryz.prog.info? 145).map (·.size)=some 12:=by kernel_rfl
theorem nonce_size {l:List UInt8}(h:l.length=12):(Tryz.prog.info? 145).map (·.size)=some (l.map bval).length:=by rw[q100,h];exact Tryz.arr145
theorem ofInt32_mod(c z:Int):BitVec.ofInt 32 (c%4294967296+z)=BitVec.ofInt 32 (c+z):=by
 apply BitVec.eq_of_toInt_eq
 rw[BitVec.toInt_ofInt,BitVec.toInt_ofInt]
 unfold Int.bmod
 have a:((2^32:Nat):Int)=4294967296:=rfl
 rw[a,Int.emod_add_emod]
theorem chaByte_at(key:List UInt8)(c:Int)(a b:List UInt8)(k:Nat)(h:b=chaBlock key (BitVec.ofInt 32 (c+((k / 64:Nat):Int))) a):b.getD (k%64) 0=chaByte key c a k:=by
 rw[h]
 rfl
theorem rTurn_any(i nb b:List UInt8)(bv:Value)(c:Int)(w:World)(I:i.length=32)(R:nb.length=12)(t:Row1 w bv (b.map bval))(a5:b.length≤1099511627776)(af: -9223372036854775808≤c)(a9:c≤9223372036854775807):
  Calls Tryz.prog 138 #[.agg (i.map bval).toArray,.int .i64 c,.agg (nb.map bval).toArray,bv] w fun e w'=>∃x,e=.returned x∧w'.ownsRow w.heap.size 5 1 x b.length ((chaTurn i c nb b).map bval)∧Below w.heap.size w w':=by
 obtain⟨i0,ac,a2,a4,ad⟩:=info_parts Tryz.info5
 obtain⟨az,b2,b1,au,b6,ba⟩:=jq6 ac a2 a4 ad I R
 obtain⟨C,HR,HB,U⟩:=jq4 a5 t (boxes2 w (i.map bval) (nb.map bval) 23 145) (and_mask32 c af a9)
 have ap:Hid ((Tryz.prog.info? 23).map (·.size)=some (i.map bval).length):=jh (zaf I)
 have aw:Hid ((Tryz.prog.info? 145).map (·.size)=some (nb.map bval).length):=jh (nonce_size R)
 have ak:=jh (fun z=>ofInt32_mod c z)
 obtain⟨A,ab⟩:=nxq (c%4294967296)
 have aj:Hid (0≤A∧A<4294967296):=jh (by omega)
 rw[←ab]at U ak
 clear I R a5 t ac a2 a4 ad af a9 ab
 go_enter Tryz.func138,Tryz.ntmps138
 go_upto_region 1 with(fail)
 obtain⟨l,f,j⟩:=HB.o
 change Code.wp _ _ _ _ ((w.alloc (.cells (i.map bval).toArray 23)).alloc (.cells (nb.map bval).toArray 145))
 generalize (w.alloc (.cells (i.map bval).toArray 23)).alloc (.cells (nb.map bval).toArray 145)=u at*
 obtain⟨K,hK⟩:=nxq w.heap.size
 have X:Hid (w.heap.size≤K∧K≤w.heap.size):=jh (by omega)
 rw[←hK]at l f⊢
 obtain⟨l,f⟩:=jq2 l f
 have j:Hid (Ext w u):=jh j
 have a7:=jh (HR.o.below j.o)
 have Y:Hid (u.ownsRow u.heap.size 5 1 (.slice none 0 0) 0 []):=jh (World.ownsRow_nil _ _ _ _)
 have H:Hid ((b.map bval).length=b.length):=jh (q100 _)
 clear hK HB HR
 go_upto_region 2 with(at_builtin;refine zad rfl _ _ 24 rfl u.heap.size 5 i0 (.int .u8 0) 1 q104 az.o b2.o b1.o au.o rfl _ 0 _ rfl Y.o rfl a7.o (zac _) (by have:=C.o;rw[H.o];unfold maxLen;omega) (by have:=C.o;rw[H.o];omega) (q101 _) ?_;intro x1 s al a6)
 have m:Hid (s.ownsRow (K+2) 5 1 x1 b.length (b.map bval)):=jh (by have h:=al;rw[H.o,q117,q115]at h;exact h.mono (by have:=f.o.lt;omega))
 have T:Hid (Ext u s):=jh (zbf (Ext.refl u) Y.o (q101 _) a6)
 obtain⟨l,f⟩:=xq2 l f T.o
 have j:=xxt j T.o
 obtain⟨D,cx,a3,_⟩:=id (Row1.of_own m.o)
 rw[H.o]at a3
 subst a3
 clear al a6 T Y a7 H
 have b9:=U.o
 go_upto_region 3 with(fail)
 clear b9 U
 obtain⟨M,L⟩:=nxq s.heap.size
 have W:Hid (K+1<M):=jh (by have:=f.o.lt;omega)
 have O:=Ext.alloc s (.cells (ints .u8 (List.replicate 64 0)).toArray 26)
 have a8:Hid (∀g,D=some ⟨g,0,none⟩→g<M):=jh (fun g S=>by subst S;rw[L];exact(m.o.lt g rfl).2)
 have q:Hid (Blk (s.alloc (.cells (ints .u8 (List.replicate 64 0)).toArray 26)) M ((List.replicate 64 (0:UInt8)).map bval) 26):=jh (by
  have e:(List.replicate 64 (0:UInt8)).map bval=ints .u8 (List.replicate 64 0):=by rw[List.map_replicate];unfold ints;rw[List.map_replicate];rfl
  rw[e,L]
  exact Blk.made s (ints .u8 (List.replicate 64 0)) 26)
 obtain⟨l,f⟩:=xq2 l f O
 have m:=jh (m.o.alloc (.cells (ints .u8 (List.replicate 64 0)).toArray 26))
 have j:=xxt j O
 clear O
 go_upto_region 4 with(fail)
 change Code.wp _ _ _ _ (s.alloc (.cells (ints .u8 (List.replicate 64 0)).toArray 26))
 rw[←L]
 clear L
 generalize s.alloc (.cells (ints .u8 (List.replicate 64 0)).toArray 26)=w2 at*
 go_wp2_with fail
 go_loopw [12] (fun J wr=>∃(k:Nat) (v:List UInt8),k≤b.length∧J=.int .i64 (k:Int)∧v.length=64∧(k%64≠0→v=chaBlock i (BitVec.ofInt 32 (c+((k / 64:Nat):Int))) nb)∧wr.ownsRow (K+2) 5 1 (.slice D b.length cx) b.length ((chaTo i c nb b k).map bval)∧Blk wr K (i.map bval) 23∧Blk wr (K+1) (nb.map bval) 145∧Blk wr M (v.map bval) 26∧Ext w wr) (fun J _=>b.length - (intOf J).toNat)
 case atStart=>exact⟨0,_,by omega,rfl,by simp,fun h=>absurd rfl h,m.o,l.o,f.o,q.o,j.o⟩
 case round=>
  clear m l f q j
  obtain⟨k,v,I,rfl,ae,ai,n,F,G,B,E⟩:=hrel
  have k0:(0:Int)≤(k:Int):=Int.natCast_nonneg _
  obtain⟨ah,P,m,l,f,q⟩:=jq6 ai ae n F G B
  have j:=jh E
  clear ai ae n F G B E
  by_cases ar:k<b.length
  ·have k1:(k:Int)<(b.length:Int):=by omega
   go_upto_if 25 with(fail)
   go_cut [12]from 23 to 32 (fun J wc=>∃(p:List UInt8),J=.int .i64 (k:Int)∧p.length=64∧p=chaBlock i (BitVec.ofInt 32 (c+((k / 64:Nat):Int))) nb∧wc.ownsRow (K+2) 5 1 (.slice D b.length cx) b.length ((chaTo i c nb b k).map bval)∧Blk wc K (i.map bval) 23∧Blk wc (K+1) (nb.map bval) 145∧Blk wc M (p.map bval) 26∧Ext w wc)
   case first=>
    by_cases hm:k%64=0
    ·have q0:(k:Int)%64=0:=by omega
     obtain⟨d,hd⟩:=nxq (k / 64)
     have q1:(k:Int) / 64=(d:Int):=by omega
     have q2:(0:Int)≤(d:Int):=by omega
     have q3:A+(d:Int)≤9223372036854775807:=by have:=aj.o;have:=C.o;omega
     have q4: -9223372036854775808≤A+(d:Int):=by have:=aj.o;omega
     have q5:(d:Int)≤9223372036854775807:=by have:=C.o;omega
     have q6: -9223372036854775808≤(d:Int):=by omega
     obtain⟨o,n⟩:=nxq (chaBlock i (BitVec.ofInt 32 (c+((k / 64:Nat):Int))) nb)
     have a1:chaBlock i (BitVec.ofInt 32 (A+(d:Int))) nb=o:=by rw[n,hd,ak.o]
     have a0:=rBlock_any i nb (A+(d:Int)) wr b6.o ba.o q4 q3
     rw[a1]at a0
     obtain⟨aa,an⟩:=jq2 a0 n
     have V:Hid (o.length=64):=jh (by rw[n];exact chaBlock_length _ _ _)
     clear n a1 a0
     clear hd hm
     go_wp2_with (first|(refine slb K l.o q102 ap.o ?_)|(refine slb (K+1) f.o q170 aw.o ?_))
     refine aa.o.mono ?_
     rintro e w5 ⟨rfl,t⟩
     have m:=jh (zbn m.o t)
     obtain⟨l,f,q⟩:=xq3 l f q t
     have j:=xxt j t
     have am:Hid ((Tryz.prog.info? 26).map (·.size)=some (o.map bval).length):=jh (zep V.o)
     have aq:Hid ((o.map bval).length=(v.map bval).length):=jh (by rw[q100,q100,V.o,P.o])
     clear t aa
     go_wp2_with (refine ssb M (o.map bval) q.o aq.o am.o (zac _) ?_;intro w6 ay N)
     go_meet
     refine⟨o,rfl,V.o,an.o,m.o.kept N (Or.inr (fun e=>?_)),l.o.grown N (fun e=>by have h:=Option.some.inj e;have:=W.o;omega),f.o.grown N (fun e=>by have h:=Option.some.inj e;have:=W.o;omega),ay,zab j.o N (by have:=W.o;have:=X.o;omega)⟩
     cases D with
     |none=>cases e
     |some a=>
      have e2:a.block=M:=Option.some.inj e
      obtain⟨g,b4,y,_⟩:=m.o.form (by omega)
      have S:a=⟨g,0,none⟩:=by
       simp only[Value.slice.injEq,Option.some.injEq]at y
       exact y.1
      subst S
      have:=a8.o g rfl
      have e3:g=M:=e2
      omega
    have q0:((k:Int)%64==0)=false:=by simp;omega
    go_wp2_with fail
    go_meet
    exact⟨v,rfl,P.o,ah.o hm,m.o,l.o,f.o,q.o,j.o⟩
   case rest=>
    obtain⟨p,rfl,Z,Q,n,F,G,B,E⟩:=hcut
    clear m l f q j ah P
    obtain⟨g,b4,y,bd,b3⟩:=n.form (by omega)
    have av:D=some ⟨g,0,none⟩:=by
     simp only[Value.slice.injEq]at y
     exact y.1
    subst av
    have b8:=jh (a8.o g rfl)
    have c1:=n.cellAt k (by omega)
    have f1:=n.frozenAt k
    have hx:(chaTo i c nb b k).getD k 0=b.getD k 0:=by rw[chaTo_getD _ _ _ _ k I,if_neg (by omega)]
    rw[zbg (by rw[chaTo_length];exact ar),hx]at c1
    have c2:=B.cell (k%64)
    rw[zbg (by rw[Z];omega)]at c2
    have ag:=chaByte_at i c nb p k Q
    have x1:=xor_u8 (b.getD k 0) (p.getD (k%64) 0)
    have HS:=jh (show ((chaTo i c nb b k).map bval).set k (bval (b.getD k 0^^^p.getD (k%64) 0))=(chaTo i c nb b (k+1)).map bval from by rw[←q141,ag];rfl)
    obtain⟨b5,b0,ao,l,f,q⟩:=jq6 (n.stored k (bval (b.getD k 0^^^p.getD (k%64) 0))) Q Z F G B
    have j:=jh E
    generalize hz:b.getD k 0^^^p.getD (k%64) 0=z at*
    generalize b.getD k 0=y1 at*
    generalize p.getD (k%64) 0=y2 at*
    obtain⟨r,hr⟩:=nxq (k%64)
    have q1:(k:Int)%64=(r:Int):=by omega
    have q2:(0:Int)≤(r:Int):=by omega
    have q3:(r:Int)<64:=by omega
    rw[←hr]at c2
    clear Q Z F G B E ag hx hz hr n y b3
    go_wp2_with fail
    go_region
    have bc:(k:Int)+1≤9223372036854775807:=by have:=C.o;omega
    go_wp2_with fail
    go_roundw
    case rel=>
     refine⟨k+1,p,by omega,by go_num,ao.o,fun hm=>?_,?_,l.o.far (by simp;omega) _,f.o.far (by simp;omega) _,q.o.far (by have:=b8.o;simp;omega) _,Ext.trans (b:=wc.setCell ⟨g,k,none⟩ (bval z)) (Below.setCell j.o (by have:=X.o;simp;omega) _) (Ext.drew _)⟩
     ·rw[b0.o]
      congr 2
      omega
     rw[←HS.o]
     exact b5.o.1
    case measure=>
     simp[intOf];omega
  have b7:k=b.length:=by omega
  subst b7
  rw[chaTo_full]at m
  have bb:¬(b.length:Int)<(b.length:Int):=by omega
  go_wp2_with fail
  go_ret
  exact⟨_,rfl,m.o.mono (by have:=X.o;omega),j.o⟩
def sumI(f:Nat→Int):Nat→Int
 |0=>0
 |n+1=>sumI f n+f n
theorem sumI_congr {f g:Nat→Int}:∀n,(∀i,i<n→f i=g i)→sumI f n=sumI g n
 |0,_=>rfl
 |n+1,h=>by simp only[sumI,sumI_congr n (fun i a=>h i (by omega)),h n (by omega)]
theorem sumI_add(f g:Nat→Int):∀n,sumI (fun i=>f i+g i) n=sumI f n+sumI g n
 |0=>rfl
 |n+1=>by simp only[sumI,sumI_add f g n];omega
theorem sumI_mul(c:Int)(f:Nat→Int):∀n,sumI (fun i=>c*f i) n=c*sumI f n
 |0=>by simp[sumI]
 |n+1=>by simp only[sumI,sumI_mul c f n,Int.mul_add]
theorem sumI_swap(f:Nat→Nat→Int)(m:Nat):∀n,sumI (fun i=>sumI (fun j=>f i j) m) n=sumI (fun j=>sumI (fun i=>f i j) n) m
 |0=>by
  have:∀m,sumI (fun _=>(0:Int)) m=0:=fun m=>by induction m with
   |zero=>rfl
   |succ m a=>simp only[sumI,a];rfl
  simp only[sumI]
  exact(this m).symm
 |n+1=>by
  simp only[sumI]
  rw[sumI_swap f m n,←sumI_add]
theorem gV_take_sum(B:Int)(zs:List Int):∀n,n≤zs.length→gV B (zs.take n)=sumI (fun i=>zs.getD i 0*B^i) n
 |0,_=>by simp[sumI,gV]
 |n+1,h=>by rw[zcb B zs n (by omega),gV_take_sum B zs n (by omega)];rfl
theorem gV_sum(B:Int)(zs:List Int):gV B zs=sumI (fun i=>zs.getD i 0*B^i) zs.length:=by
 have:=gV_take_sum B zs zs.length (q101 _)
 rwa [q133]at this
def tCo(r:List Int)(i j:Nat):Int:=if j≤i then r.getD (i - j) 0 else 320*r.getD (i+17 - j) 0
def tRun(h r:List Int)(i:Nat):Nat→Int
 |0=>0
 |j+1=>tRun h r i j+h.getD j 0*tCo r i j
theorem tRun_sum(h r:List Int)(i:Nat):∀n,tRun h r i n=sumI (fun j=>h.getD j 0*tCo r i j) n
 |0=>rfl
 |n+1=>by simp only[tRun,sumI,tRun_sum h r i n]
def tList(h r:List Int):Nat→List Int
 |0=>List.replicate 17 0
 |k+1=>(tList h r k).set k (tRun h r k 17)
theorem zek(h r:List Int):∀k,(tList h r k).length=17
 |0=>by simp[tList]
 |k+1=>by simp[tList,zek h r k]
theorem tList_getD(h r:List Int):∀k,k≤17→∀i,(tList h r k).getD i 0=if i<k then tRun h r i 17 else 0
 |0,_,i=>by
  rw[if_neg (by omega)]
  simp only[tList]
  rcases q114 i 17 with a|a
  ·rw[getD_eq (by simp;exact a),List.getElem_replicate]
  exact zeq (by simp;exact a)
 |k+1,hk,i=>by
  rw[tList]
  by_cases e:i=k
  ·subst e
   rw[zai (by rw[zek];omega),if_pos (by omega)]
  rw[zae (by omega),tList_getD h r k (by omega) i]
  by_cases h1:i<k
  ·rw[if_pos h1,if_pos (by omega)]
  rw[if_neg h1,if_neg (by omega)]
theorem tCo_val(r:List Int)(j:Nat)(a:j<17):∃q,sumI (fun i=>tCo r i j*256^i) 17=256^j*sumI (fun k=>r.getD k 0*256^k) 17+(pQ:Int)*q:=by
 unfold pQ
 rcases(by omega:j=0∨j=1∨j=2∨j=3∨j=4∨j=5∨j=6∨j=7∨j=8∨j=9∨j=10∨j=11∨j=12∨j=13∨j=14∨j=15∨j=16)with rfl|rfl|rfl|rfl|rfl|rfl|rfl|rfl|rfl|rfl|rfl|rfl|rfl|rfl|rfl|rfl|rfl
 ·exact⟨0,by simp only[sumI,tCo,Nat.reduceLeDiff,Nat.reduceSub,Nat.reduceAdd,if_true,if_false,reduceIte,Nat.reducePow,Int.reducePow];omega⟩
 ·exact⟨-(64*(r.getD 16 0*1)),by simp only[sumI,tCo,Nat.reduceLeDiff,Nat.reduceSub,Nat.reduceAdd,if_true,if_false,reduceIte,Nat.reducePow,Int.reducePow];omega⟩
 ·exact⟨-(64*(r.getD 15 0*1+r.getD 16 0*256)),by simp only[sumI,tCo,Nat.reduceLeDiff,Nat.reduceSub,Nat.reduceAdd,if_true,if_false,reduceIte,Nat.reducePow,Int.reducePow];omega⟩
 ·exact⟨-(64*(r.getD 14 0*1+r.getD 15 0*256+r.getD 16 0*65536)),by simp only[sumI,tCo,Nat.reduceLeDiff,Nat.reduceSub,Nat.reduceAdd,if_true,if_false,reduceIte,Nat.reducePow,Int.reducePow];omega⟩
 ·exact⟨-(64*(r.getD 13 0*1+r.getD 14 0*256+r.getD 15 0*65536+r.getD 16 0*16777216)),by simp only[sumI,tCo,Nat.reduceLeDiff,Nat.reduceSub,Nat.reduceAdd,if_true,if_false,reduceIte,Nat.reducePow,Int.reducePow];omega⟩
 ·exact⟨-(64*(r.getD 12 0*1+r.getD 13 0*256+r.getD 14 0*65536+r.getD 15 0*16777216+r.getD 16 0*4294967296)),by simp only[sumI,tCo,Nat.reduceLeDiff,Nat.reduceSub,Nat.reduceAdd,if_true,if_false,reduceIte,Nat.reducePow,Int.reducePow];omega⟩
 ·exact⟨-(64*(r.getD 11 0*1+r.getD 12 0*256+r.getD 13 0*65536+r.getD 14 0*16777216+r.getD 15 0*4294967296+r.getD 16 0*1099511627776)),by simp only[sumI,tCo,Nat.reduceLeDiff,Nat.reduceSub,Nat.reduceAdd,if_true,if_false,reduceIte,Nat.reducePow,Int.reducePow];omega⟩
 ·exact⟨-(64*(r.getD 10 0*1+r.getD 11 0*256+r.getD 12 0*65536+r.getD 13 0*16777216+r.getD 14 0*4294967296+r.getD 15 0*1099511627776+r.getD 16 0*281474976710656)),by simp only[sumI,tCo,Nat.reduceLeDiff,Nat.reduceSub,Nat.reduceAdd,if_true,if_false,reduceIte,Nat.reducePow,Int.reducePow];omega⟩
 ·exact⟨-(64*(r.getD 9 0*1+r.getD 10 0*256+r.getD 11 0*65536+r.getD 12 0*16777216+r.getD 13 0*4294967296+r.getD 14 0*1099511627776+r.getD 15 0*281474976710656+r.getD 16 0*72057594037927936)),by simp only[sumI,tCo,Nat.reduceLeDiff,Nat.reduceSub,Nat.reduceAdd,if_true,if_false,reduceIte,Nat.reducePow,Int.reducePow];omega⟩
 ·exact⟨-(64*(r.getD 8 0*1+r.getD 9 0*256+r.getD 10 0*65536+r.getD 11 0*16777216+r.getD 12 0*4294967296+r.getD 13 0*1099511627776+r.getD 14 0*281474976710656+r.getD 15 0*72057594037927936+r.getD 16 0*18446744073709551616)),by simp only[sumI,tCo,Nat.reduceLeDiff,Nat.reduceSub,Nat.reduceAdd,if_true,if_false,reduceIte,Nat.reducePow,Int.reducePow];omega⟩
 ·exact⟨-(64*(r.getD 7 0*1+r.getD 8 0*256+r.getD 9 0*65536+r.getD 10 0*16777216+r.getD 11 0*4294967296+r.getD 12 0*1099511627776+r.getD 13 0*281474976710656+r.getD 14 0*72057594037927936+r.getD 15 0*18446744073709551616+r.getD 16 0*4722366482869645213696)),by simp only[sumI,tCo,Nat.reduceLeDiff,Nat.reduceSub,Nat.reduceAdd,if_true,if_false,reduceIte,Nat.reducePow,Int.reducePow];omega⟩
 ·exact⟨-(64*(r.getD 6 0*1+r.getD 7 0*256+r.getD 8 0*65536+r.getD 9 0*16777216+r.getD 10 0*4294967296+r.getD 11 0*1099511627776+r.getD 12 0*281474976710656+r.getD 13 0*72057594037927936+r.getD 14 0*18446744073709551616+r.getD 15 0*4722366482869645213696+r.getD 16 0*1208925819614629174706176)),by simp only[sumI,tCo,Nat.reduceLeDiff,Nat.reduceSub,Nat.reduceAdd,if_true,if_false,reduceIte,Nat.reducePow,Int.reducePow];omega⟩
 ·exact⟨-(64*(r.getD 5 0*1+r.getD 6 0*256+r.getD 7 0*65536+r.getD 8 0*16777216+r.getD 9 0*4294967296+r.getD 10 0*1099511627776+r.getD 11 0*281474976710656+r.getD 12 0*72057594037927936+r.getD 13 0*18446744073709551616+r.getD 14 0*4722366482869645213696+r.getD 15 0*1208925819614629174706176+r.getD 16 0*309485009821345068724781056)),by simp only[sumI,tCo,Nat.reduceLeDiff,Nat.reduceSub,Nat.reduceAdd,if_true,if_false,reduceIte,Nat.reducePow,Int.reducePow];omega⟩
 ·exact⟨-(64*(r.getD 4 0*1+r.getD 5 0*256+r.getD 6 0*65536+r.getD 7 0*16777216+r.getD 8 0*4294967296+r.getD 9 0*1099511627776+r.getD 10 0*281474976710656+r.getD 11 0*72057594037927936+r.getD 12 0*18446744073709551616+r.getD 13 0*4722366482869645213696+r.getD 14 0*1208925819614629174706176+r.getD 15 0*309485009821345068724781056+r.getD 16 0*79228162514264337593543950336)),by simp only[sumI,tCo,Nat.reduceLeDiff,Nat.reduceSub,Nat.reduceAdd,if_true,if_false,reduceIte,Nat.reducePow,Int.reducePow];omega⟩
 ·exact⟨-(64*(r.getD 3 0*1+r.getD 4 0*256+r.getD 5 0*65536+r.getD 6 0*16777216+r.getD 7 0*4294967296+r.getD 8 0*1099511627776+r.getD 9 0*281474976710656+r.getD 10 0*72057594037927936+r.getD 11 0*18446744073709551616+r.getD 12 0*4722366482869645213696+r.getD 13 0*1208925819614629174706176+r.getD 14 0*309485009821345068724781056+r.getD 15 0*79228162514264337593543950336+r.getD 16 0*20282409603651670423947251286016)),by simp only[sumI,tCo,Nat.reduceLeDiff,Nat.reduceSub,Nat.reduceAdd,if_true,if_false,reduceIte,Nat.reducePow,Int.reducePow];omega⟩
 ·exact⟨-(64*(r.getD 2 0*1+r.getD 3 0*256+r.getD 4 0*65536+r.getD 5 0*16777216+r.getD 6 0*4294967296+r.getD 7 0*1099511627776+r.getD 8 0*281474976710656+r.getD 9 0*72057594037927936+r.getD 10 0*18446744073709551616+r.getD 11 0*4722366482869645213696+r.getD 12 0*1208925819614629174706176+r.getD 13 0*309485009821345068724781056+r.getD 14 0*79228162514264337593543950336+r.getD 15 0*20282409603651670423947251286016+r.getD 16 0*5192296858534827628530496329220096)),by simp only[sumI,tCo,Nat.reduceLeDiff,Nat.reduceSub,Nat.reduceAdd,if_true,if_false,reduceIte,Nat.reducePow,Int.reducePow];omega⟩
 exact⟨-(64*(r.getD 1 0*1+r.getD 2 0*256+r.getD 3 0*65536+r.getD 4 0*16777216+r.getD 5 0*4294967296+r.getD 6 0*1099511627776+r.getD 7 0*281474976710656+r.getD 8 0*72057594037927936+r.getD 9 0*18446744073709551616+r.getD 10 0*4722366482869645213696+r.getD 11 0*1208925819614629174706176+r.getD 12 0*309485009821345068724781056+r.getD 13 0*79228162514264337593543950336+r.getD 14 0*20282409603651670423947251286016+r.getD 15 0*5192296858534827628530496329220096+r.getD 16 0*1329227995784915872903807060280344576)),by simp only[sumI,tCo,Nat.reduceLeDiff,Nat.reduceSub,Nat.reduceAdd,if_true,if_false,reduceIte,Nat.reducePow,Int.reducePow];omega⟩
theorem sumI_part(r h:List Int):∀n,n≤17→∃q,sumI (fun j=>h.getD j 0*sumI (fun i=>tCo r i j*256^i) 17) n=sumI (fun j=>h.getD j 0*256^j) n*sumI (fun k=>r.getD k 0*256^k) 17+(pQ:Int)*q
 |0,_=>⟨0,by simp[sumI]⟩
 |n+1,hn=>by
  obtain⟨q,b⟩:=sumI_part r h n (by omega)
  obtain⟨c,a⟩:=tCo_val r n (by omega)
  refine⟨q+h.getD n 0*c,?_⟩
  simp only[sumI]at b a⊢
  rw[b,a]
  grind
theorem tList_val {h r:List Int}(l:h.length=17)(f:r.length=17):gV 256 (tList h r 17)%(pQ:Int)=gV 256 h*gV 256 r%(pQ:Int):=by
 have c:gV 256 (tList h r 17)=sumI (fun i=>sumI (fun j=>h.getD j 0*(tCo r i j*256^i)) 17) 17:=by
  rw[gV_sum,zek]
  refine sumI_congr 17 (fun i g=>?_)
  rw[tList_getD h r 17 (q101 _) i,if_pos g,tRun_sum,Int.mul_comm,←sumI_mul]
  refine sumI_congr 17 (fun j d=>?_)
  rw[Int.mul_comm,Int.mul_assoc]
 rw[sumI_swap]at c
 have e:gV 256 (tList h r 17)=sumI (fun j=>h.getD j 0*sumI (fun i=>tCo r i j*256^i) 17) 17:=by
  rw[c]
  refine sumI_congr 17 (fun j d=>?_)
  rw[sumI_mul]
 obtain⟨q,k⟩:=sumI_part r h 17 (q101 _)
 have b:=gV_sum 256 h
 have a:=gV_sum 256 r
 rw[l]at b
 rw[f]at a
 rw[e,k,←b,←a,Int.add_mul_emod_self_left]
theorem tRun_bound {h r:List Int}(b:∀i,0≤h.getD i 0∧h.getD i 0≤1024)(a:∀i,0≤r.getD i 0∧r.getD i 0≤255)(i:Nat):∀j,0≤tRun h r i j∧tRun h r i j≤83558400*j
 |0=>by simp[tRun]
 |j+1=>by
  obtain⟨e,c⟩:=tRun_bound b a i j
  have h1:=b j
  have h2:0≤tCo r i j∧tCo r i j≤81600:=by
   unfold tCo
   split
   ·have:=a (i - j)
    omega
   have:=a (i+17 - j)
   omega
  have d:0≤h.getD j 0*tCo r i j:=q155 h1.1 h2.1
  have f:h.getD j 0*tCo r i j≤1024*81600:=Int.mul_le_mul h1.2 h2.2 h2.1 (by omega)
  rw[tRun]
  constructor<;>omega
def wRun(h:List Int):Nat→List Int×Int
 |0=>(h,5)
 |i+1=>((wRun h i).1.set i (((wRun h i).2+(wRun h i).1.getD i 0)%256),((wRun h i).2+(wRun h i).1.getD i 0) / 256)
theorem wRun_length(h:List Int):∀i,(wRun h i).1.length=h.length
 |0=>rfl
 |i+1=>by simp[wRun,wRun_length h i]
theorem wRun_far(h:List Int):∀i j,i≤j→(wRun h i).1.getD j 0=h.getD j 0
 |0,_,_=>rfl
 |i+1,j,hj=>by
  rw[wRun,zae (by omega),wRun_far h i j (by omega)]
theorem wRun_small(h:List Int)(a:h.length=17):∀i,i≤17→∀j,j<i→0≤(wRun h i).1.getD j 0∧(wRun h i).1.getD j 0<256
 |0,_,j,hj=>by omega
 |i+1,hi,j,hj=>by
  rw[wRun]
  by_cases e:j=i
  ·subst e
   rw[zai (by rw[wRun_length];omega)]
   omega
  rw[zae (by omega)]
  exact wRun_small h a i (by omega) j (by omega)
theorem wRun_val(h:List Int)(a:h.length=17):∀i,i≤17→gV 256 (wRun h i).1+(wRun h i).2*256^i=gV 256 h+5
 |0,_=>by simp[wRun]
 |i+1,hi=>by
  have b:=wRun_val h a i (by omega)
  rw[wRun,gV_set _ _ _ _ (by rw[wRun_length];omega),←b,q124]
  generalize (wRun h i).2=u
  generalize (wRun h i).1.getD i 0=z
  generalize gV 256 (wRun h i).1=V
  generalize c:(256:Int)^i=B
  have e:(u+z)=256*((u+z) / 256)+(u+z)%256:=(Int.mul_ediv_add_emod _ _).symm
  generalize (u+z) / 256=q at*
  generalize (u+z)%256=r at*
  have:u=256*q+r - z:=by omega
  subst this
  grind
theorem wRun_u(h:List Int)(a:∀i,0≤h.getD i 0∧h.getD i 0<256):∀i,0≤(wRun h i).2∧(wRun h i).2≤5
 |0=>by simp[wRun]
 |i+1=>by
  have b:=wRun_u h a i
  have:=a i
  rw[wRun,wRun_far h i i (q101 _)]
  show 0≤((wRun h i).2+h.getD i 0) / 256∧((wRun h i).2+h.getD i 0) / 256≤5
  omega
theorem Can17.digit {h:List Int}(c:Can17 h)(i:Nat):0≤h.getD i 0∧h.getD i 0<256:=by
 obtain⟨d,h1,h2⟩:=c
 rcases q114 i 16 with a|a
 ·exact h1 i a
 rcases q114 i 17 with b|b
 ·have:i=16:=by omega
  subst this
  omega
 rw[zeq (by omega)]
 omega
theorem Can17.range {h:List Int}(a:Can17 h):0≤gV 256 h∧gV 256 h<two130:=by
 have c:=digits16 a.1 a.2.1
 have b:=gV_17 a.1
 have:=a.2.2
 unfold two130
 omega
def wOut(h:List Int):List Int:=if 4≤(wRun h 17).1.getD 16 0 then(wRun h 17).1.set 16 ((wRun h 17).1.getD 16 0 - 4)else h
theorem wOut_val {h:List Int}(d:Can17 h):(wOut h).length=17∧(∀i,i<17→0≤(wOut h).getD i 0∧(wOut h).getD i 0<256)∧gV 256 (wOut h)=gV 256 h%(pQ:Int):=by
 have c:=d.1
 have n:=d.range
 have b:(wRun h 17).1.length=17:=by rw[wRun_length,c]
 have a:=wRun_small h c 17 (q101 _)
 have p:=wRun_val h c 17 (q101 _)
 have y:=wRun_u h d.digit 17
 have l:=gV_range (B:=256) (by omega) (zs:=(wRun h 17).1) (fun i f=>a i (by omega))
 have v:=digits16 b (fun j t=>a j (by omega))
 have s:=gV_17 b
 have g:(256:Int)^17=87112285931760246646623899502532662132736:=by decide+kernel
 rw[g]at p
 have x:=a 16 (by omega)
 unfold two130 at n
 unfold wOut pQ
 by_cases k:4≤(wRun h 17).1.getD 16 0
 ·rw[if_pos k]
  refine⟨by simp[b],fun i f=>?_,?_⟩
  ·by_cases e:i=16
   ·subst e
    rw[zai (by omega)]
    omega
   rw[zae (by omega)]
   exact a i f
  rw[gV_set _ _ _ _ (by omega),pow_16]
  generalize gV 256 (wRun h 17).1=W at*
  generalize gV 256 h=V at*
  generalize (wRun h 17).2=u at*
  generalize (wRun h 17).1.getD 16 0=z at*
  generalize gV 256 ((wRun h 17).1.take 16)=D at*
  clear a l g b
  have r:u=0:=by omega
  subst r
  have m:z=4:=by omega
  subst m
  have q:V%1361129467683753853853498429727072845819=V - 1361129467683753853853498429727072845819:=by
   rw[←Int.sub_emod_right,q159 (by omega) (by omega)]
  show W+(4 - 4 - 4)*340282366920938463463374607431768211456=V%1361129467683753853853498429727072845819
  rw[q]
  omega
 rw[if_neg k]
 refine⟨c,fun i f=>d.digit i,?_⟩
 generalize gV 256 (wRun h 17).1=W at*
 generalize gV 256 h=V at*
 generalize (wRun h 17).2=u at*
 generalize (wRun h 17).1.getD 16 0=z at*
 generalize gV 256 ((wRun h 17).1.take 16)=D at*
 clear a l g b
 omega
theorem and_i64_3(a:Int)(h1: -9223372036854775808≤a)(h2:a≤9223372036854775807):bits .and .i64 a 3=a%4:=by
 have h:(BitVec.ofInt 64 3).toNat=2^2 - 1:=by decide
 have key:(BitVec.ofInt 64 a &&& BitVec.ofInt 64 3).toNat=(a%((2^64:Nat):Int)).toNat%2^2:=by
  rw[BitVec.toNat_and,BitVec.toNat_ofInt,h,q142]
 show IntKind.i64.wrap ((BitVec.ofInt 64 a &&& BitVec.ofInt 64 3).toNat:Nat)=_
 rw[key,IntKind.wrap_i64]
 omega
def qN(h:List Int):Nat→List Int
 |0=>h
 |k+1=>qPass (qN h k)
theorem qN_length(h:List Int):∀k,(qN h k).length=h.length
 |0=>rfl
 |k+1=>by rw[qN,qPass_length,qN_length h k]
theorem qN_three(h:List Int):qN h 3=qThree h:=rfl
theorem qPass_le(h:List Int)(b:h.length=17) {M:Int}(k:255≤M)(a:∀i,0≤h.getD i 0∧h.getD i 0≤M):∀i,0≤(qPass h).getD i 0∧(qPass h).getD i 0≤4*M:=by
 intro i
 refine⟨qPass_nonneg h b (fun i=>(a i).1) i,?_⟩
 have d:(zao h 16).1.length=17:=by rw[zbs,b]
 have c:=qRun_small h b 16 (q101 _)
 have j:=qRun_top h a 16
 have l:=qRun_nonneg h (fun i=>(a i).1) 16
 have g:=a 16
 unfold qPass
 by_cases e:i=0
 ·subst e
  rw[zai (by simp[d])]
  have:=c 0 (by omega)
  omega
 rw[zae (by omega)]
 by_cases f:i=16
 ·subst f
  rw[zai (by omega)]
  omega
 rw[zae (by omega)]
 rcases q114 i 16 with h|h
 ·have:=(c i h).2
  omega
 rw[zeq (by omega)]
 omega
theorem qN_le(h:List Int)(c:h.length=17)(e:∀i,0≤h.getD i 0∧h.getD i 0≤1099511627776)(k:Nat)(j:k≤3):∀i,0≤(qN h k).getD i 0∧(qN h k).getD i 0≤70368744177664:=by
 have g:(qN h 1).length=17:=by rw[qN_length,c]
 have f:(qN h 2).length=17:=by rw[qN_length,c]
 have b:=qPass_le h c (by omega) e
 have a:=qPass_le (qN h 1) g (by omega) b
 have d:=qPass_le (qN h 2) f (by omega) a
 intro i
 rcases(by omega:k=0∨k=1∨k=2∨k=3)with rfl|rfl|rfl|rfl
 ·have:=e i
  exact⟨this.1,Int.le_trans this.2 (by decide)⟩
 ·exact⟨(b i).1,Int.le_trans (b i).2 (by decide)⟩
 ·exact⟨(a i).1,Int.le_trans (a i).2 (by decide)⟩
 exact⟨(d i).1,Int.le_trans (d i).2 (by decide)⟩
theorem zbr {w:World} {S i:Nat} {l:List Int} {t:TypeId}(h:Blk w S (ints .i64 l) t)(a:i<l.length):w.cell? ⟨S,i,none⟩=some (.int .i64 (l.getD i 0)):=by
 rw[h.cell,zas a]
theorem Tryz.arr229:(Tryz.prog.info? 229).map (·.size)=some 17:=by kernel_rfl
theorem zev {l:List Int}(h:l.length=17):(Tryz.prog.info? 229).map (·.size)=some (ints .i64 l).length:=by rw[zaa,h];exact Tryz.arr229
theorem carried17_any(H:List Int)(w:World)(C:H.length=17)(F:∀i,0≤H.getD i 0∧H.getD i 0≤1099511627776):
  Calls Tryz.prog 192 #[.agg (ints .i64 H).toArray] w fun e N=>e=.returned (.agg (ints .i64 (qThree H)).toArray)∧Below w.heap.size w N:=by
 obtain⟨G,V,J⟩:=jq3 C (qN_le H C F) (boxes2 w (ints .i64 H) (ints .i64 (List.replicate 17 0)) 229 229)
 clear C F
 go_enter Tryz.func192,Tryz.ntmps192
 go_upto_region 1 with(fail)
 obtain⟨d,c,f⟩:=J.o
 change Code.wp _ _ _ _ ((w.alloc (.cells (ints .i64 H).toArray 229)).alloc (.cells (ints .i64 (List.replicate 17 0)).toArray 229))
 generalize (w.alloc (.cells (ints .i64 H).toArray 229)).alloc (.cells (ints .i64 (List.replicate 17 0)).toArray 229)=Z at*
 obtain⟨A,L⟩:=nxq w.heap.size
 have m:Hid (w.heap.size≤A):=jh (by omega)
 rw[←L]at d c⊢
 obtain⟨d,c⟩:=jq2 d c
 have f:Hid (Ext w Z):=jh f
 clear L J
 go_wp2_with fail
 go_loopw [3] (fun s wr=>∃(k:Nat),k≤3∧s=.int .i64 (k:Int)∧Blk wr A (ints .i64 (qN H k)) 229∧Blk wr (A+1) (ints .i64 (List.replicate 17 0)) 229∧Ext w wr) (fun s _=>3 - (intOf s).toNat)
 case atStart=>exact⟨0,by omega,rfl,d.o,c.o,f.o⟩
 case round=>
  clear d c f
  obtain⟨k,hk,rfl,b,j,g⟩:=hrel
  have k0:(0:Int)≤(k:Int):=Int.natCast_nonneg _
  by_cases a9:k<3
  ·have k1:(k:Int)<3:=by omega
   have W:Hid (qN H (k+1)=qPass (qN H k)):=jh rfl
   have n:=jh (V.o k (by omega))
   have I:Hid ((qN H k).length=17):=jh (by rw[qN_length];exact G.o)
   obtain⟨d,c,f⟩:=jq3 b j g
   clear b j g
   generalize qN H k=h at*
   go_wp2_with fail
   go_loopw [4,5] (fun uv x wr=>∃(i:Nat),i≤16∧uv=.int .i64 (zao h i).2∧x=.int .i64 (i:Int)∧Blk wr A (ints .i64 (zao h i).1) 229∧Blk wr (A+1) (ints .i64 (List.replicate 17 0)) 229∧Ext w wr) (fun _ x _=>16 - (intOf x).toNat)
   case atStart=>exact⟨0,by omega,rfl,rfl,d.o,c.o,f.o⟩
   case round=>
    clear d c f
    obtain⟨i,hi,rfl,rfl,b,j,g⟩:=hrel
    have i0:(0:Int)≤(i:Int):=Int.natCast_nonneg _
    have a7:=qRun_nonneg h (fun i=>(n.o i).1) i
    have a8:=qRun_top h n.o i
    have t:(zao h i).1.length=17:=by rw[zbs];exact I.o
    obtain⟨d,c,f⟩:=jq3 b j g
    by_cases a5:i<16
    ·have i1:(i:Int)<17:=by omega
     have i2:(i:Int)<16:=by omega
     have c1:=zbr b (i:=i) (by rw[t];omega)
     have E:=b.free i
     have q:=n.o i
     have l:=qRun_far h i i (q101 _)
     have U:Hid ((zao h (i+1)).1=(zao h i).1.set i (((zao h i).2+(zao h i).1.getD i 0)%256)):=jh rfl
     have X:Hid ((zao h (i+1)).2=((zao h i).2+(zao h i).1.getD i 0) / 256):=jh rfl
     rw[←l]at q
     clear b j g l
     generalize (zao h i).1.getD i 0=z at*
     generalize (zao h i).2=u at*
     obtain⟨T,z1⟩:=q
     have K:=zct (u+z) (by omega) (by omega)
     go_wp2_with fail
     go_roundw
     case rel=>
      refine⟨i+1,by omega,by rw[X.o],by go_num,?_,c.o.far (by simp) _,Below.setCell f.o (by have:=m.o;simp;omega) _⟩
      rw[U.o]
      exact d.o.seti i _
     case measure=>simp[intOf];omega
    have a4:i=16:=by omega
    subst a4
    rw[show ((16:Nat):Int)=16 from rfl]
    have S:Hid (qPass h=((zao h 16).1.set 16 (((zao h 16).2+h.getD 16 0)%4)).set 0 ((zao h 16).1.getD 0 0+5*(((zao h 16).2+h.getD 16 0) / 4))):=jh rfl
    have c1:=zbr b (i:=16) (by rw[t];omega)
    have E:=b.free 16
    have q:=n.o 16
    have l:=qRun_far h 16 16 (q101 _)
    rw[l]at c1
    have O:=qRun_small h I.o 16 (q101 _) 0 (by omega)
    clear b j g l
    generalize a6:(zao h 16).1=D at*
    generalize (zao h 16).2=u at*
    generalize h.getD 16 0=z at*
    obtain⟨T,z1⟩:=q
    have K:=and_i64_3 (u+z) (by omega) (by omega)
    have B:Hid (Blk (wr.setCell ⟨A,16,none⟩ (.int .i64 ((u+z)%4))) A (ints .i64 (D.set 16 ((u+z)%4))) 229):=jh (d.o.seti 16 _)
    have a0:=jh (c.o.far (a:=⟨A,16,none⟩) (by simp) (.int .i64 ((u+z)%4)))
    have P:Hid (Ext w (wr.setCell ⟨A,16,none⟩ (.int .i64 ((u+z)%4)))):=jh (Below.setCell f.o (by have:=m.o;simp;omega) _)
    go_upto_region 13 with(fail)
    clear d c f c1 E K
    generalize wr.setCell ⟨A,16,none⟩ (.int .i64 ((u+z)%4))=w5 at*
    have c1:=zbr B.o (i:=0) (by rw[q125,t];omega)
    rw[zae (by omega)]at c1
    have E:=B.o.free 0
    have M:=jh (B.o.seti 0 (D.getD 0 0+5*((u+z) / 4)))
    rw[←S.o]at M
    generalize D.getD 0 0=y at*
    obtain⟨y0,y1⟩:=O
    go_wp2_with fail
    go_roundw
    case rel=>exact⟨k+1,by omega,by go_num,by rw[W.o];exact M.o,a0.o.far (by simp) _,Below.setCell P.o (by have:=m.o;simp;omega) _⟩
    case measure=>simp[intOf];omega
  have Y:k=3:=by omega
  subst Y
  rw[qN_three]at b
  have p:(qThree H).length=17:=by rw[←qN_three,qN_length];exact G.o
  obtain⟨o,r⟩:=nxq (qThree H)
  rw[←r]at b p
  obtain⟨R,d,c,f,v⟩:=jq5 r b j g (zev p)
  have a2:Hid ((ints .i64 o).length=(ints .i64 (List.replicate 17 0)).length):=jh (by rw[zaa,p,zaa,q112])
  clear b j g r p
  go_wp2_with (first|(refine slb A d.o q144 v.o ?_)|(refine ssb (A+1) (ints .i64 o) c.o a2.o v.o (zah _ _) ?_;intro w9 Q a3))
  refine bodyPost_ret (zam rfl _ (A+1) _ _ _ _ rfl Q q144 v.o) rfl ?_
  exact⟨by rw[R.o],zab f.o a3 (by have:=m.o;omega)⟩
theorem tCo_lo(r:List Int) {i j:Nat}(h:j≤i):tCo r i j=r.getD (i - j) 0:=by unfold tCo;rw[if_pos h]
theorem tCo_hi(r:List Int) {i j:Nat}(h:i<j):tCo r i j=320*r.getD (i+17 - j) 0:=by unfold tCo;rw[if_neg (by omega)]
theorem tList_le {h r:List Int}(a:∀i,0≤h.getD i 0∧h.getD i 0≤1024)(b:∀i,0≤r.getD i 0∧r.getD i 0≤255):∀i,0≤(tList h r 17).getD i 0∧(tList h r 17).getD i 0≤1420492800:=fun i=>by
 rw[tList_getD h r 17 (q101 _)]
 split
 ·have:=tRun_bound a b i 17
  omega
 omega
theorem times17_any(H R:List Int)(w:World)(hl:H.length=17)(Q:R.length=17)(hh:∀i,0≤H.getD i 0∧H.getD i 0≤1024)(Y:∀i,0≤R.getD i 0∧R.getD i 0≤255):
  Calls Tryz.prog 185 #[.agg (ints .i64 H).toArray,.agg (ints .i64 R).toArray] w fun e w'=>e=.returned (.agg (ints .i64 (qThree (tList H R 17))).toArray)∧Below w.heap.size w w':=by
 obtain⟨V,U,v,t,HB⟩:=jq5 hl Q hh Y (boxes4 w (ints .i64 H) (ints .i64 R) (ints .i64 (List.replicate 17 0)) (ints .i64 (List.replicate 17 0)) 229 229 229 229)
 clear hl Q hh Y
 go_enter Tryz.func185,Tryz.ntmps185
 go_upto_region 2 with(fail)
 obtain⟨g,c,b,h,f⟩:=HB.o
 change Code.wp _ _ _ _ ((((w.alloc (.cells (ints .i64 H).toArray 229)).alloc (.cells (ints .i64 R).toArray 229)).alloc (.cells (ints .i64 (List.replicate 17 0)).toArray 229)).alloc (.cells (ints .i64 (List.replicate 17 0)).toArray 229))
 generalize (((w.alloc (.cells (ints .i64 H).toArray 229)).alloc (.cells (ints .i64 R).toArray 229)).alloc (.cells (ints .i64 (List.replicate 17 0)).toArray 229)).alloc (.cells (ints .i64 (List.replicate 17 0)).toArray 229)=O at*
 obtain⟨A,X⟩:=nxq w.heap.size
 have W:Hid (w.heap.size≤A):=jh (by omega)
 rw[←X]at g c b h⊢
 obtain⟨g,c,b⟩:=jq3 g c b
 have h:Hid (Blk O (A+1+1+1) (ints .i64 (tList H R 0)) 229):=jh h
 have f:Hid (Ext w O):=jh f
 clear X HB
 go_wp2_with fail
 go_loopw [6] (fun L wr=>∃(i:Nat),i≤17∧L=.int .i64 (i:Int)∧Blk wr A (ints .i64 H) 229∧Blk wr (A+1) (ints .i64 R) 229∧Blk wr (A+1+1) (ints .i64 (List.replicate 17 0)) 229∧Blk wr (A+1+1+1) (ints .i64 (tList H R i)) 229∧Ext w wr) (fun L _=>17 - (intOf L).toNat)
 case atStart=>exact⟨0,by omega,rfl,g.o,c.o,b.o,h.o,f.o⟩
 case round=>
  clear g c b h f
  obtain⟨i,hi,rfl,T,a1,a3,l,S⟩:=hrel
  have i0:(0:Int)≤(i:Int):=Int.natCast_nonneg _
  obtain⟨g,c,b,h,f⟩:=jq5 T a1 a3 l S
  clear T a1 a3 l S
  by_cases ad:i<17
  ·have i1:(i:Int)<17:=by omega
   have N:=jh (fun j=>tRun_bound v.o t.o i j)
   go_wp2_with fail
   go_loopw [7,8] (fun uv k E=>∃(j:Nat),j≤i+1∧uv=.int .i64 (tRun H R i j)∧k=.int .i64 (j:Int)∧Ext wr E) (fun _ k _=>i+1 - (intOf k).toNat)
   case atStart=>exact⟨0,by omega,rfl,rfl,Ext.refl _⟩
   case round=>
    obtain⟨j,hj,rfl,rfl,n⟩:=hrel
    have K:(0:Int)≤(j:Int):=Int.natCast_nonneg _
    have a:=jh n
    obtain⟨I,q⟩:=N.o j
    clear n
    by_cases M:j≤i
    ·have s:(j:Int)≤(i:Int):=by omega
     have j2:(j:Int)<17:=by omega
     obtain⟨d,r⟩:=nxq (i - j)
     have d1:(i:Int) - (j:Int)=(d:Int):=by omega
     have d2:(0:Int)≤(d:Int):=by omega
     have d3:(d:Int)<17:=by omega
     have c1:=zbr (zak g.o a.o) (i:=j) (by rw[V.o];omega)
     have c2:=zbr (zak c.o a.o) (i:=d) (by rw[U.o];omega)
     obtain⟨e0,e1⟩:=v.o j
     obtain⟨m,F⟩:=t.o d
     have J:Hid (tRun H R i (j+1)=tRun H R i j+H.getD j 0*R.getD d 0):=jh (by rw[tRun,tCo_lo R M,r])
     have b2:tRun H R i j≤1420492800:=by omega
     generalize H.getD j 0=x at*
     generalize R.getD d 0=y at*
     generalize tRun H R i j=u at*
     have z:0≤x*y:=q155 e0 m
     have p:x*y≤1024*255:=Int.mul_le_mul e1 F m (by omega)
     have C:x*y≤261120:=p
     have P: -9223372036854775808≤x*y:=by omega
     have w2:x*y≤9223372036854775807:=by omega
     have w3: -9223372036854775808≤u+x*y:=by omega
     have w4:u+x*y≤9223372036854775807:=by omega
     clear q r p C z
     go_wp2_with fail
     go_region
     go_wp2_with fail
     go_roundw
     case rel=>exact⟨j+1,by omega,by rw[J.o],by go_num,a.o.trans (Ext.drew _)⟩
     case measure=>simp[intOf];omega
    have D:j=i+1:=by omega
    subst D
    have s:¬(((i+1:Nat):Int)≤(i:Int)):=by omega
    rw[show ((i+1:Nat):Int)=(i:Int)+1 from by omega]at s K⊢
    clear I q
    obtain⟨g,c,b,h⟩:=xq4 g c b h a.o
    have f:=xxt f a.o
    clear a
    go_wp2_with fail
    go_loopw [7,9] (fun uv k E=>∃(j:Nat),i+1≤j∧j≤17∧uv=.int .i64 (tRun H R i j)∧k=.int .i64 (j:Int)∧Ext wr E) (fun _ k _=>17 - (intOf k).toNat)
    case atStart=>exact⟨i+1,by omega,by omega,rfl,by rw[show ((i+1:Nat):Int)=(i:Int)+1 from by omega],Ext.refl _⟩
    case round=>
     clear K s
     obtain⟨j,ac,ae,rfl,rfl,n⟩:=hrel
     have K:(0:Int)≤(j:Int):=Int.natCast_nonneg _
     have a:=jh n
     obtain⟨I,q⟩:=N.o j
     clear n
     by_cases M:j<17
     ·have s:(j:Int)<17:=by omega
      obtain⟨d,r⟩:=nxq (i+17 - j)
      have d1:(i:Int)+17 - (j:Int)=(d:Int):=by omega
      have d2:(0:Int)≤(d:Int):=by omega
      have d3:(d:Int)<17:=by omega
      have c1:=zbr (zak g.o a.o) (i:=j) (by rw[V.o];omega)
      have c2:=zbr (zak c.o a.o) (i:=d) (by rw[U.o];omega)
      obtain⟨e0,e1⟩:=v.o j
      obtain⟨m,F⟩:=t.o d
      have J:Hid (tRun H R i (j+1)=tRun H R i j+320*H.getD j 0*R.getD d 0):=jh (by rw[tRun,tCo_hi R (by omega),r,←Int.mul_assoc,Int.mul_comm (H.getD j 0) 320])
      have b2:tRun H R i j≤1420492800:=by omega
      generalize H.getD j 0=x at*
      generalize R.getD d 0=y at*
      generalize tRun H R i j=u at*
      have z:0≤320*x*y:=q155 (by omega) m
      have p:320*x*y≤327680*255:=Int.mul_le_mul (by omega) F m (by omega)
      have C:320*x*y≤83558400:=p
      have w5: -9223372036854775808≤320*x:=by omega
      have w6:320*x≤9223372036854775807:=by omega
      have P: -9223372036854775808≤320*x*y:=by omega
      have w2:320*x*y≤9223372036854775807:=by omega
      have w3: -9223372036854775808≤u+320*x*y:=by omega
      have w4:u+320*x*y≤9223372036854775807:=by omega
      clear q r p C z
      go_wp2_with fail
      go_region
      go_wp2_with fail
      go_roundw
      case rel=>exact⟨j+1,by omega,by omega,by rw[J.o],by go_num,a.o.trans (Ext.drew _)⟩
      case measure=>simp[intOf];omega
     have D:j=17:=by omega
     subst D
     rw[show ((17:Nat):Int)=17 from rfl]
     have l:=zak h.o a.o
     have tl:=zek H R i
     have c1:=zbr l (i:=i) (by rw[tl];omega)
     have f1:=l.free i
     obtain⟨g,c,b⟩:=xq3 g c b a.o
     have h:=jh l
     have f:=xxt f a.o
     have a8:Hid (tList H R (i+1)=(tList H R i).set i (tRun H R i 17)):=jh rfl
     clear l tl I q a
     generalize tRun H R i 17=u at*
     go_wp2_with fail
     go_roundw
     case rel=>exact⟨i+1,by omega,by go_num,g.o.far (by simp;omega) _,c.o.far (by simp;omega) _,b.o.far (by simp) _,by rw[a8.o];exact h.o.seti i _,Below.setCell f.o (by have:=W.o;simp;omega) _⟩
     case measure=>simp[intOf];omega
  have ab:i=17:=by omega
  subst ab
  obtain⟨a0,G⟩:=jq2 (tList_le v.o t.o) (zek H R 17)
  have a9:=jh (fun w=>carried17_any (tList H R 17) w G.o (fun i=>⟨(a0.o i).1,Int.le_trans (a0.o i).2 (by decide)⟩))
  have a2:Hid ((qThree (tList H R 17)).length=17):=jh (by rw[←qN_three,qN_length];exact G.o)
  obtain⟨a7,Z⟩:=jq2 (zev G.o) (zev a2.o)
  generalize hx:tList H R 17=x at*
  have aa:=jh hx
  clear hx
  have a5:Hid ((ints .i64 (qThree x)).length=(ints .i64 (List.replicate 17 0)).length):=jh (by rw[zaa,a2.o,zaa,q112])
  go_wp2_with (refine slb (A+1+1+1) h.o q144 a7.o ?_)
  refine(a9.o wr).mono ?_
  rintro e P ⟨rfl,B⟩
  have b:=xxb b B
  have f:=xxt f B
  clear B
  go_wp2_with (refine ssb (A+1+1) (ints .i64 (qThree x)) b.o a5.o Z.o (zah _ _) ?_;intro w9 a4 a6)
  refine bodyPost_ret (zam rfl _ (A+1+1) _ _ _ _ rfl a4 q144 Z.o) rfl ?_
  exact⟨by rw[aa.o],zab f.o a6 (by have:=W.o;omega)⟩
theorem can17_le {h:List Int}(a:Can17 h):∀i,0≤h.getD i 0∧h.getD i 0≤1099511627776:=fun i=>by
 have:=a.digit i
 omega
theorem can17_three {h:List Int}(a:Can17 h):Can17 (qThree h)∧gV 256 (qThree h)%(pQ:Int)=gV 256 h%(pQ:Int):=
 qThree_val h a.1 (fun i=>(a.digit i).1) (by have:=a.range.2;unfold two130 at this;omega)
theorem wOut_length {h:List Int}(a:Can17 h):(wOut h).length=17:=(wOut_val a).1
theorem whole17_any(H:List Int)(w:World)(g:Can17 H):
  Calls Tryz.prog 186 #[.agg (ints .i64 H).toArray] w fun e w'=>e=.returned (.agg (ints .i64 (wOut (qThree H))).toArray)∧Below w.heap.size w w':=by
 have HL:=jh g.1
 have a3:=jh (fun w=>carried17_any H w g.1 (can17_le g))
 obtain⟨l,S,a8,m⟩:=jq4 (can17_three g).1 (boxes2 w (ints .i64 H) (ints .i64 (List.replicate 17 0)) 229 229) (zev g.1) (zev (can17_three g).1.1)
 have ag:Hid ((ints .i64 (qThree H)).length=(ints .i64 H).length):=jh (by rw[zaa,zaa,(can17_three g).1.1,g.1])
 clear g
 go_enter Tryz.func186,Tryz.ntmps186
 go_upto_region 1 with(fail)
 obtain⟨c,b,d⟩:=S.o
 change Code.wp _ _ _ _ ((w.alloc (.cells (ints .i64 H).toArray 229)).alloc (.cells (ints .i64 (List.replicate 17 0)).toArray 229))
 generalize (w.alloc (.cells (ints .i64 H).toArray 229)).alloc (.cells (ints .i64 (List.replicate 17 0)).toArray 229)=Z at*
 obtain⟨A,W⟩:=nxq w.heap.size
 have v:Hid (w.heap.size≤A):=jh (by omega)
 rw[←W]at c b⊢
 obtain⟨c,b⟩:=jq2 c b
 have d:Hid (Ext w Z):=jh d
 clear W S
 go_wp2_with (refine slb A c.o q144 a8.o ?_)
 refine(a3.o Z).mono ?_
 rintro e w1 ⟨rfl,x⟩
 obtain⟨c,b⟩:=xq2 c b x
 have d:=xxt d x
 clear x a3
 generalize a0:qThree H=h at*
 have U:=jh a0
 clear a0
 go_upto_region 2 with(refine ssb A (ints .i64 h) c.o ag.o m.o (zah _ _) ?_;intro t j J)
 have b:=jh (b.o.grown J (fun e=>by have h:=Option.some.inj e;omega))
 obtain⟨d,c⟩:=jq2 (zab d.o J v.o) j
 clear j J
 obtain⟨G,K⟩:=nxq t.heap.size
 have p:Hid (A+1<G):=jh (by have:=b.o.lt;omega)
 have Y:=jh (Blk.made t (ints .i64 (List.replicate 17 0)) 229)
 have r:=Ext.alloc t (.cells (ints .i64 (List.replicate 17 0)).toArray 229)
 have a2:=xxb c r
 have a5:=xxb b r
 have a4:=xxt d r
 have L:=jh d.o.size
 have T:Hid ((ints .i64 h).length=(ints .i64 (List.replicate 17 0)).length):=jh (by rw[zaa,l.o.1,zaa,q112])
 clear r
 go_upto_region 3 with(first|(refine slb A c.o q144 m.o ?_)|(refine ssb t.heap.size (ints .i64 h) Y.o T.o m.o (zah _ _) ?_;intro w3 f s))
 have c:=jh (a2.o.grown s (fun e=>by have h:=Option.some.inj e;have:=p.o;omega))
 have b:=jh (a5.o.grown s (fun e=>by have h:=Option.some.inj e;have:=p.o;omega))
 obtain⟨d,k⟩:=jq2 (zab a4.o s L.o) f
 have R:Hid (w.heap.size≤G):=jh (by rw[K];exact L.o)
 rw[←K]at k⊢
 clear f s K Y a2 a5 a4 L
 go_wp2_with fail
 go_loopw [4,5] (fun uv N wr=>∃(i:Nat),i≤17∧uv=.int .i64 (wRun h i).2∧N=.int .i64 (i:Int)∧Blk wr A (ints .i64 h) 229∧Blk wr (A+1) (ints .i64 (List.replicate 17 0)) 229∧Blk wr G (ints .i64 (wRun h i).1) 229∧Ext w wr) (fun _ N _=>17 - (intOf N).toNat)
 case atStart=>exact⟨0,by omega,rfl,rfl,c.o,b.o,k.o,d.o⟩
 case round=>
  clear c b k d
  obtain⟨i,hi,rfl,rfl,I,j,f,F⟩:=hrel
  have i0:(0:Int)≤(i:Int):=Int.natCast_nonneg _
  have C:(wRun h i).1.length=17:=by rw[wRun_length];exact l.o.1
  obtain⟨ad,ae⟩:=wRun_u h l.o.digit i
  obtain⟨c,b,k,d⟩:=jq4 I j f F
  by_cases aj:i<17
  ·have i1:(i:Int)<17:=by omega
   have c1:=zbr f (i:=i) (by rw[C];omega)
   have f1:=f.free i
   have hz:=l.o.digit i
   have X:=wRun_far h i i (q101 _)
   have a9:Hid ((wRun h (i+1)).1=(wRun h i).1.set i (((wRun h i).2+(wRun h i).1.getD i 0)%256)):=jh rfl
   have aa:Hid ((wRun h (i+1)).2=((wRun h i).2+(wRun h i).1.getD i 0) / 256):=jh rfl
   rw[←X]at hz
   clear I j f F X
   generalize (wRun h i).1.getD i 0=z at*
   generalize (wRun h i).2=u at*
   obtain⟨z0,z1⟩:=hz
   have a1:=zct (u+z) (by omega) (by omega)
   go_wp2_with fail
   go_roundw
   case rel=>
    refine⟨i+1,by omega,by rw[aa.o],by go_num,c.o.far (by have:=p.o;simp;omega) _,b.o.far (by have:=p.o;simp;omega) _,?_,Below.setCell d.o (by have:=R.o;simp;omega) _⟩
    rw[a9.o]
    exact k.o.seti i _
   case measure=>simp[intOf];omega
  have ah:i=17:=by omega
  subst ah
  have c1:=zbr f (i:=16) (by rw[C];omega)
  have f1:=f.free 16
  have a6:=wRun_small h l.o.1 17 (q101 _) 16 (by omega)
  have Q:Hid (wOut h=if 4≤(wRun h 17).1.getD 16 0 then(wRun h 17).1.set 16 ((wRun h 17).1.getD 16 0 - 4)else h):=jh rfl
  have y:=jh (wOut_length l.o)
  clear I j f F
  have ai:=jh C
  generalize (wRun h 17).1=M at*
  clear ad ae
  generalize (wRun h 17).2=u at*
  have ab:Hid (∀z:Int,Blk (wr.setCell ⟨G,16,none⟩ (.int .i64 z)) G (ints .i64 (M.set 16 z)) 229):=jh (fun z=>k.o.seti 16 z)
  generalize P:M.getD 16 0=z at*
  obtain⟨z0,z1⟩:=a6
  by_cases V:4≤z
  ·have n:wOut h=M.set 16 (z - 4):=by rw[Q.o,if_pos V]
   obtain⟨o,q⟩:=nxq (wOut h)
   obtain⟨D,HG⟩:=jq2 q (ab.o (z - 4))
   rw[←n,←q]at HG
   rw[←q]at y
   have ac:=jh (b.o.far (a:=⟨G,16,none⟩) (by have:=p.o;simp;omega) (.int .i64 (z - 4)))
   have a7:Hid (Ext w (wr.setCell ⟨G,16,none⟩ (.int .i64 (z - 4)))):=jh (Below.setCell d.o (by have:=R.o;simp;omega) _)
   have E:=jh (zev y.o)
   have af:Hid ((ints .i64 o).length=(ints .i64 (List.replicate 17 0)).length):=jh (by rw[zaa,y.o,zaa,q112])
   clear n q P
   go_wp2_with (first|(refine slb G HG.o q144 E.o ?_)|(refine ssb (A+1) (ints .i64 o) ac.o af.o E.o (zah _ _) ?_;intro w9 B O))
   refine bodyPost_ret (zam rfl _ (A+1) _ _ _ _ rfl B q144 E.o) rfl ?_
   exact⟨by rw[U.o,D.o],zab a7.o O (by have:=v.o;omega)⟩
  have n:wOut h=h:=by rw[Q.o,if_neg V]
  have D:=jh n
  have z3:z<4:=by omega
  clear n P
  go_wp2_with (first|(refine slb A c.o q144 m.o ?_)|(refine ssb (A+1) (ints .i64 h) b.o T.o m.o (zah _ _) ?_;intro w9 B O))
  refine bodyPost_ret (zam rfl _ (A+1) _ _ _ _ rfl B q144 m.o) rfl ?_
  exact⟨by rw[U.o,D.o],zab d.o O (by have:=v.o;omega)⟩
theorem gV_le {M:Int}(a:0≤M):∀{zs:List Int},(∀i,0≤zs.getD i 0∧zs.getD i 0≤M)→255*gV 256 zs+M≤M*256^zs.length
 |[],_=>by simp[gV]
 |z::r,h=>by
  have h0:=h 0
  simp only[List.getD_cons_zero]at h0
  have c:=gV_le a (zs:=r) (fun i=>by have:=h (i+1);simpa using this)
  simp only[gV,q106,q124]
  generalize gV 256 r=V at*
  generalize b:(256:Int)^r.length=B at*
  have e:M*(B*256)=256*(M*B):=by rw[←Int.mul_assoc,Int.mul_comm]
  rw[e]
  generalize M*B=X at*
  omega
theorem mul17 {h r:List Int}(j:h.length=17)(g:r.length=17)(f:∀i,0≤h.getD i 0∧h.getD i 0≤1024)(e:∀i,0≤r.getD i 0∧r.getD i 0≤255):
  Can17 (qThree (tList h r 17))∧gV 256 (qThree (tList h r 17))%(pQ:Int)=gV 256 h*gV 256 r%(pQ:Int):=by
 have b:∀i,0≤(tList h r 17).getD i 0∧(tList h r 17).getD i 0≤1420492800:=fun i=>by
  rw[tList_getD h r 17 (q101 _)]
  split
  ·have:=tRun_bound f e i 17
   omega
  omega
 have a:=zek h r 17
 have d:=gV_le (by omega) b
 rw[a,show (256:Int)^17=87112285931760246646623899502532662132736 from by decide+kernel]at d
 have c:=qThree_val (tList h r 17) a (fun i=>(b i).1) (by omega)
 exact⟨c.1,c.2.trans (tList_val j g)⟩
def rA(key:List UInt8):Nat→List Int
 |0=>List.replicate 17 0
 |k+1=>(rA key k).set k ((key.getD k 0).toNat:Int)
def rB(key:List UInt8):Nat→List Int
 |0=>rA key 16
 |k+1=>(rB key k).set (3+4*k) ((rB key k).getD (3+4*k) 0%16)
def rC(key:List UInt8):Nat→List Int
 |0=>rB key 4
 |k+1=>(rC key k).set (4+4*k) ((rC key k).getD (4+4*k) 0 / 4*4)
theorem rA_length(key:List UInt8):∀k,(rA key k).length=17
 |0=>by simp[rA]
 |k+1=>by rw[rA,q125,rA_length key k]
theorem rB_length(key:List UInt8):∀k,(rB key k).length=17
 |0=>rA_length key 16
 |k+1=>by rw[rB,q125,rB_length key k]
theorem rC_length(key:List UInt8):∀k,(rC key k).length=17
 |0=>rB_length key 4
 |k+1=>by rw[rC,q125,rC_length key k]
theorem rA_digit(key:List UInt8):∀k i,0≤(rA key k).getD i 0∧(rA key k).getD i 0≤255
 |0,i=>by
  rcases q114 i 17 with a|a
  ·rw[rA,getD_eq (by simp;exact a),List.getElem_replicate]
   omega
  rw[zeq (by simp[rA];exact a)]
  omega
 |k+1,i=>by
  rw[rA]
  by_cases e:i=k
  ·subst e
   rcases q114 i 17 with a|a
   ·rw[zai (by rw[rA_length];exact a)]
    have:=(key.getD i 0).toNat_lt
    omega
   rw[zeq (by rw[q125,rA_length];exact a)]
   omega
  rw[zae (by omega)]
  exact rA_digit key k i
theorem rB_digit(key:List UInt8):∀k i,k≤4→0≤(rB key k).getD i 0∧(rB key k).getD i 0≤255
 |0,i,_=>rA_digit key 16 i
 |k+1,i,hk=>by
  rw[rB]
  have a:=rB_digit key k
  by_cases e:i=3+4*k
  ·subst e
   rw[zai (by rw[rB_length];omega)]
   have:=a (3+4*k) (by omega)
   omega
  rw[zae (by omega)]
  exact a i (by omega)
theorem rC_digit(key:List UInt8):∀k i,k≤3→0≤(rC key k).getD i 0∧(rC key k).getD i 0≤255
 |0,i,_=>rB_digit key 4 i (by omega)
 |k+1,i,hk=>by
  rw[rC]
  have a:=rC_digit key k
  by_cases e:i=4+4*k
  ·subst e
   rw[zai (by rw[rC_length];omega)]
   have:=a (4+4*k) (by omega)
   omega
  rw[zae (by omega)]
  exact a i (by omega)
theorem rA_getD(key:List UInt8):∀k,k≤17→∀i,(rA key k).getD i 0=if i<k then((key.getD i 0).toNat:Int)else 0
 |0,_,i=>by
  rw[if_neg (by omega)]
  rcases q114 i 17 with a|a
  ·rw[rA,getD_eq (by simp;exact a),List.getElem_replicate]
  rw[zeq (by simp[rA];exact a)]
 |k+1,hk,i=>by
  rw[rA]
  by_cases e:i=k
  ·subst e
   rw[zai (by rw[rA_length];omega),if_pos (by omega)]
  rw[zae (by omega),rA_getD key k (by omega) i]
  by_cases h:i<k
  ·rw[if_pos h,if_pos (by omega)]
  rw[if_neg h,if_neg (by omega)]
theorem rB_getD(key:List UInt8):∀k,k≤4→∀i,(rB key k).getD i 0=if i%4=3∧i<3+4*k then(rA key 16).getD i 0%16 else(rA key 16).getD i 0
 |0,_,i=>by rw[if_neg (by omega)];rfl
 |k+1,hk,i=>by
  rw[rB]
  by_cases e:i=3+4*k
  ·subst e
   rw[zai (by rw[rB_length];omega),rB_getD key k (by omega),if_neg (by omega),if_pos (by omega)]
  rw[zae (by omega),rB_getD key k (by omega) i]
  by_cases h:i%4=3∧i<3+4*k
  ·rw[if_pos h,if_pos (by omega)]
  rw[if_neg h,if_neg (by omega)]
theorem rC_getD(key:List UInt8):∀k,k≤3→∀i,(rC key k).getD i 0=if i%4=0∧4≤i∧i<4+4*k then(rB key 4).getD i 0 / 4*4 else(rB key 4).getD i 0
 |0,_,i=>by rw[if_neg (by omega)];rfl
 |k+1,hk,i=>by
  rw[rC]
  by_cases e:i=4+4*k
  ·subst e
   rw[zai (by rw[rC_length];omega),rC_getD key k (by omega),if_neg (by omega),if_pos (by omega)]
  rw[zae (by omega),rC_getD key k (by omega) i]
  by_cases h:i%4=0∧4≤i∧i<4+4*k
  ·rw[if_pos h,if_pos (by omega)]
  rw[if_neg h,if_neg (by omega)]
theorem pDigits_length(key:List UInt8):(pDigits key).length=16:=by simp[pDigits]
theorem pDigits_getD(key:List UInt8) {i:Nat}(h:i<16):(pDigits key).getD i 0=(pDigit key i:Int):=by
 simp[pDigits,List.getD,h]
theorem rC_full(key:List UInt8):rC key 3=pDigits key++[0]:=by
 apply ext_getD (by rw[rC_length,q105,pDigits_length];rfl)
 intro i b
 rw[rC_length]at b
 rw[rC_getD key 3 (by omega),rB_getD key 4 (by omega),rA_getD key 16 (by omega)]
 rcases q114 i 16 with h|h
 ·have e:(pDigits key++[0]).getD i 0=(pDigit key i:Int):=by
   rw[←pDigits_getD key h]
   simp[List.getD,List.getElem?_append_left (show i<(pDigits key).length by rw[pDigits_length];exact h)]
  rw[e,if_pos h]
  unfold pDigit
  generalize (key.getD i 0).toNat=x
  by_cases c:i%4=3
  ·rw[if_neg (by omega),if_pos (by omega),if_pos (by omega)]
   omega
  by_cases h0:i%4=0∧4≤i
  ·rw[if_pos (by omega),if_neg (by omega),if_neg (by omega),if_pos (by omega)]
   omega
  rw[if_neg (by omega),if_neg (by omega),if_neg (by omega),if_neg (by omega)]
 have a:i=16:=by omega
 subst a
 rw[if_neg (by omega),if_neg (by omega),if_neg (by omega)]
 simp[List.getD,pDigits_length]
theorem rC_val(key:List UInt8):gV 256 (rC key 3)=pR key:=by
 rw[rC_full,gV_append]
 simp[gV,pR]
def cA(b:List UInt8)(n:Nat):Nat→List Int
 |0=>List.replicate 17 0
 |i+1=>(cA b n i).set i ((b.getD (16*n+i) 0).toNat:Int)
theorem cA_length(b:List UInt8)(n:Nat):∀k,(cA b n k).length=17
 |0=>by simp[cA]
 |k+1=>by rw[cA,q125,cA_length b n k]
theorem cA_getD(b:List UInt8)(n:Nat):∀k,k≤17→∀i,(cA b n k).getD i 0=if i<k then((b.getD (16*n+i) 0).toNat:Int)else 0
 |0,_,i=>by
  rw[if_neg (by omega)]
  rcases q114 i 17 with a|a
  ·rw[cA,getD_eq (by simp;exact a),List.getElem_replicate]
  rw[zeq (by simp[cA];exact a)]
 |k+1,hk,i=>by
  rw[cA]
  by_cases e:i=k
  ·subst e
   rw[zai (by rw[cA_length];omega),if_pos (by omega)]
  rw[zae (by omega),cA_getD b n k (by omega) i]
  by_cases h:i<k
  ·rw[if_pos h,if_pos (by omega)]
  rw[if_neg h,if_neg (by omega)]
theorem gV_cA(b:List UInt8)(n:Nat):∀k,k≤16→16*n+k≤b.length→gV 256 (cA b n k)=((leN ((b.drop (16*n)).take k):Nat):Int)
 |0,_,_=>by
  rw[cA,gV_zeros]
  simp[leN]
 |k+1,hk,hb=>by
  rw[cA,gV_set _ _ _ _ (by rw[cA_length];omega),gV_cA b n k (by omega) (by omega),cA_getD b n k (by omega) k,if_neg (by omega)]
  have e:(b.drop (16*n)).take (k+1)=(b.drop (16*n)).take k++[b.getD (16*n+k) 0]:=by
   rw[q143 (by rw[q120];omega)]
   congr 2
   rw[List.getElem_drop]
   simp[List.getD,show 16*n+k<b.length by omega]
  rw[e,←gV_bytes,←gV_bytes,q110,gV_append]
  have a:(((b.drop (16*n)).take k).map fun b=>(b.toNat:Int)).length=k:=by
   rw[q100,q107,q120]
   omega
  rw[a]
  simp only[q139,q135,gV]
  generalize (256:Int)^k=B
  generalize ((b.getD (16*n+k) 0).toNat:Int)=z
  rw[Int.sub_zero,Int.mul_zero,Int.add_zero,Int.mul_comm]
theorem gV_blk(b:List UInt8)(n:Nat)(c:16*n<b.length):gV 256 ((cA b n (min 16 (b.length - 16*n))).set (min 16 (b.length - 16*n)) 1)=pBlk b n:=by
 have a:min 16 (b.length - 16*n)≤16:=by omega
 rw[gV_set _ _ _ _ (by rw[cA_length];omega),gV_cA b n _ a (by omega),cA_getD b n _ (by omega) _,if_neg (by omega)]
 unfold pBlk
 have e:(b.drop (16*n)).take (min 16 (b.length - 16*n))=(b.drop (16*n)).take 16:=by
  rcases q114 (b.length - 16*n) 16 with h|h
  ·rw[Nat.min_eq_right (by omega),q108 (by rw[q120];omega),q108 (by rw[q120];omega)]
  rw[q140 h]
 rw[e]
 generalize (256:Int)^(min 16 (b.length - 16*n))=B
 omega
theorem blk_digit(b:List UInt8)(n m:Nat)(a:m≤16)(i:Nat):0≤((cA b n m).set m 1).getD i 0∧((cA b n m).set m 1).getD i 0≤255:=by
 by_cases e:i=m
 ·subst e
  rw[zai (by rw[cA_length];omega)]
  omega
 rw[zae (by omega),cA_getD b n m (by omega)]
 split
 ·have:=(b.getD (16*n+i) 0).toNat_lt
  omega
 omega
def sA(h c:List Int):Nat→List Int
 |0=>h
 |i+1=>(sA h c i).set i ((sA h c i).getD i 0+c.getD i 0)
theorem sA_length(h c:List Int):∀k,(sA h c k).length=h.length
 |0=>rfl
 |k+1=>by rw[sA,q125,sA_length h c k]
theorem sA_far(h c:List Int):∀k j,k≤j→(sA h c k).getD j 0=h.getD j 0
 |0,_,_=>rfl
 |k+1,j,hj=>by rw[sA,zae (by omega),sA_far h c k j (by omega)]
theorem sA_val(h c:List Int)(a:h.length=c.length):∀k,k≤c.length→gV 256 (sA h c k)=gV 256 h+gV 256 (c.take k)
 |0,_=>by simp[sA,gV]
 |k+1,hk=>by
  rw[sA,gV_set _ _ _ _ (by rw[sA_length];omega),sA_val h c a k (by omega),zcb 256 c k (by omega)]
  have:(sA h c k).getD k 0+c.getD k 0 - (sA h c k).getD k 0=c.getD k 0:=by omega
  rw[this]
  omega
theorem sA_full(h c:List Int)(b:h.length=17)(a:c.length=17):gV 256 (sA h c 17)=gV 256 h+gV 256 c:=by
 rw[sA_val h c (by omega) 17 (by omega),q108 (by omega)]
theorem sA_digit(h c:List Int)(f:h.length=17)(a:∀i,0≤h.getD i 0∧h.getD i 0≤255)(b:∀i,0≤c.getD i 0∧c.getD i 0≤255):∀k i,0≤(sA h c k).getD i 0∧(sA h c k).getD i 0≤1024
 |0,i=>by
  have:=a i
  exact⟨this.1,Int.le_trans this.2 (by decide)⟩
 |k+1,i=>by
  rw[sA]
  by_cases e:i=k
  ·subst e
   rcases q114 i 17 with d|d
   ·rw[zai (by rw[sA_length];omega),sA_far h c i i (q101 _)]
    have:=a i
    have:=b i
    omega
   rw[zeq (by rw[q125,sA_length];omega)]
   omega
  rw[zae (by omega)]
  exact sA_digit h c f a b k i
def uT(h:List Int)(s:List UInt8):Nat→Int
 |0=>0
 |i+1=>(uT h s i+h.getD i 0+((s.getD i 0).toNat:Int)) / 256
def tD(h:List Int)(s:List UInt8)(i:Nat):Int:=(uT h s i+h.getD i 0+((s.getD i 0).toNat:Int))%256
theorem uT_range {h:List Int}(a:∀i,0≤h.getD i 0∧h.getD i 0≤255)(s:List UInt8):∀i,0≤uT h s i∧uT h s i≤2
 |0=>by simp[uT]
 |i+1=>by
  have b:=uT_range a s i
  have h1:=a i
  have h2:=(s.getD i 0).toNat_lt
  simp only[uT]
  omega
def tL(h:List Int)(s:List UInt8)(n:Nat):List Int:=(List.range n).map (tD h s)
theorem tL_length(h:List Int)(s:List UInt8)(n:Nat):(tL h s n).length=n:=by simp[tL]
theorem tL_succ(h:List Int)(s:List UInt8)(n:Nat):tL h s (n+1)=tL h s n++[tD h s n]:=by
 simp[tL,List.range_succ]
theorem uT_val(h:List Int)(s:List UInt8)(f:h.length=17)(c:s.length=16):∀i,i≤16→gV 256 (tL h s i)+uT h s i*256^i=gV 256 (h.take i)+((leN (s.take i):Nat):Int)
 |0,_=>by simp[tL,uT,gV,leN]
 |i+1,hi=>by
  have g:=uT_val h s f c i (by omega)
  have e:s.take (i+1)=s.take i++[s.getD i 0]:=by
   rw[q143 (by omega)]
   simp[List.getD,show i<s.length by omega]
  rw[tL_succ,gV_append,tL_length,zcb 256 h i (by omega),e,←gV_bytes,q110,gV_append]
  have a:((s.take i).map fun b=>(b.toNat:Int)).length=i:=by rw[q100,q107];omega
  rw[a,gV_bytes,q124]
  simp only[q139,q135,gV,uT]
  unfold tD
  generalize gV 256 (tL h s i)=T at*
  generalize gV 256 (h.take i)=V at*
  generalize ((leN (s.take i):Nat):Int)=L at*
  generalize (256:Int)^i=B at*
  generalize uT h s i=u at*
  generalize h.getD i 0=z at*
  generalize ((s.getD i 0).toNat:Int)=y at*
  have d:(u+z+y)=256*((u+z+y) / 256)+(u+z+y)%256:=(Int.mul_ediv_add_emod _ _).symm
  generalize (u+z+y) / 256=q at*
  generalize (u+z+y)%256=r at*
  have:u=256*q+r - z - y:=by omega
  subst this
  clear d e a
  grind
theorem tag_digits {h:List Int} {key b:List UInt8}(r:key.length=32)(f:h.length=17)(v:∀i,i<17→0≤h.getD i 0∧h.getD i 0<256)(p:gV 256 h=pNum key b):
  tL h ((key.drop 16).take 16) 16=(polyTag key b).map fun b=>(b.toNat:Int):=by
 have k:((key.drop 16).take 16).length=16:=by rw[q107,q120];omega
 have h1:=uT_val h _ f k 16 (q101 _)
 have j:=gV_17 f
 have d:(((leN (((key.drop 16).take 16).take 16):Nat):Int))=(pS key:Int):=by
  rw[q108 (l:=(key.drop 16).take 16) (by omega)]
  rfl
 rw[d]at h1
 clear d
 generalize (key.drop 16).take 16=s at*
 have n:=(pAcc_range (pR key) b ((b.length+15) / 16)).1
 have t:0≤pNum key b:=n
 have c:∀i,i<16→0≤(tL h s 16).getD i 0∧(tL h s 16).getD i 0<256:=fun i a=>by
  have e:(tL h s 16).getD i 0=tD h s i:=by
   simp only[tL,List.getD_eq_getElem?_getD,List.getElem?_map,List.getElem?_range a]
   rfl
  rw[e]
  unfold tD
  omega
 have m:=gV_range (B:=256) (by omega) (zs:=tL h s 16) (fun i a=>c i (by rw[tL_length]at a;exact a))
 rw[tL_length,pow_16]at m
 rw[pow_16]at h1
 have q:gV 256 (tL h s 16)=(((pNum key b+pS key).toNat%256^16:Nat):Int):=by
  rw[Int.natCast_emod,Int.toNat_of_nonneg (by omega),show ((256^16:Nat):Int)=340282366920938463463374607431768211456 from by decide+kernel,←p,j]
  generalize gV 256 (tL h s 16)=T at*
  generalize gV 256 (h.take 16)=V at*
  generalize h.getD 16 0=z at*
  generalize uT h s 16=u at*
  omega
 have g:=gV_dig 16 (pNum key b+pS key).toNat
 show _=dig 16 (pNum key b+pS key).toNat
 refine gV_inj (B:=256) (by omega) (by rw[tL_length,zcr]) (fun i a=>c i (by rw[tL_length]at a;exact a)) (fun i a=>dig_digits 16 _ i (by rw[zcr]at a;exact a)) ?_
 rw[q,g]
theorem Tryz.arr179:(Tryz.prog.info? 179).map (·.size)=some 16:=by kernel_rfl
theorem tag_size {l:List UInt8}(h:l.length=16):(Tryz.prog.info? 179).map (·.size)=some (l.map bval).length:=by rw[q100,h];exact Tryz.arr179
theorem and_i64_15(a:Int)(h1: -9223372036854775808≤a)(h2:a≤9223372036854775807):bits .and .i64 a 15=a%16:=by
 have h:(BitVec.ofInt 64 15).toNat=2^4 - 1:=by decide
 have key:(BitVec.ofInt 64 a &&& BitVec.ofInt 64 15).toNat=(a%((2^64:Nat):Int)).toNat%2^4:=by
  rw[BitVec.toNat_and,BitVec.toNat_ofInt,h,q142]
 show IntKind.i64.wrap ((BitVec.ofInt 64 a &&& BitVec.ofInt 64 15).toNat:Nat)=_
 rw[key,IntKind.wrap_i64]
 omega
theorem and_252_fin:∀n:Fin 256,bits .and .i64 (n.val:Int) 252=(n.val:Int) / 4*4:=by decide+kernel
theorem and_i64_252(a:Int)(h1:0≤a)(h2:a≤255):bits .and .i64 a 252=a / 4*4:=by
 obtain⟨n,rfl⟩:∃n:Nat,a=(n:Int):=⟨a.toNat,by omega⟩
 exact and_252_fin ⟨n,by omega⟩
theorem can17_zero:Can17 (List.replicate 17 0):=⟨by simp,fun i a=>by rw[getD_eq (by simp;omega),List.getElem_replicate];omega,by decide,by decide⟩
theorem can17_255 {h:List Int}(a:Can17 h):∀i,0≤h.getD i 0∧h.getD i 0≤255:=fun i=>by
 have:=a.digit i
 omega
theorem rPoly_any(c b:List UInt8)(bv:Value)(w:World)(hk:c.length=32)(O:Row1 w bv (b.map bval))(ap:b.length≤1099511627776):
  Calls Tryz.prog 171 #[.agg (c.map bval).toArray,bv] w fun e w'=>e=.returned (.agg ((polyTag c b).map bval).toArray)∧Below w.heap.size w w':=by
 obtain⟨ad,ba,HR⟩:=jq3 hk ap O
 obtain⟨ab,cb,rfl,r1,r2,_,r4⟩:=id O
 rw[q100]at r1 HR⊢
 unfold maxLen at r2
 obtain⟨HC,HB⟩:=jq2 r4 (boxes4 w (c.map bval) (ints .u8 (List.replicate 16 0)) (ints .i64 (List.replicate 17 0)) (ints .i64 (List.replicate 17 0)) 23 179 229 229)
 clear hk O ap r4
 go_enter Tryz.func171,Tryz.ntmps171
 go_upto_region 3 with(fail)
 obtain⟨B,t,D,d,x⟩:=HB.o
 change Code.wp _ _ _ _ ((((w.alloc (.cells (c.map bval).toArray 23)).alloc (.cells (ints .u8 (List.replicate 16 0)).toArray 179)).alloc (.cells (ints .i64 (List.replicate 17 0)).toArray 229)).alloc (.cells (ints .i64 (List.replicate 17 0)).toArray 229))
 generalize (((w.alloc (.cells (c.map bval).toArray 23)).alloc (.cells (ints .u8 (List.replicate 16 0)).toArray 179)).alloc (.cells (ints .i64 (List.replicate 17 0)).toArray 229)).alloc (.cells (ints .i64 (List.replicate 17 0)).toArray 229)=wa at*
 obtain⟨A,hA⟩:=nxq w.heap.size
 have S:Hid (w.heap.size≤A):=jh (by omega)
 rw[←hA]at B t D d⊢
 obtain⟨B,t⟩:=jq2 B t
 have D:Hid (Blk wa (A+1+1) (ints .i64 (rA c 0)) 229):=jh D
 have d:=jh d
 have x:Hid (Ext w wa):=jh x
 clear hA HB
 go_wp2_with fail
 go_loopw [7] (fun H wr=>∃(k:Nat),k≤16∧H=.int .i64 ((k:Int))∧Blk wr A (c.map bval) 23∧Blk wr (A+1) (ints .u8 (List.replicate 16 0)) 179∧Blk wr (A+1+1) (ints .i64 (rA c k)) 229∧Blk wr (A+1+1+1) (ints .i64 (List.replicate 17 0)) 229∧Ext w wr) (fun H _=>16 - (intOf H).toNat)
 case atStart=>exact⟨0,by omega,rfl,B.o,t.o,D.o,d.o,x.o⟩
 case round=>
  clear B t D d x
  obtain⟨k,hk,rfl,F,J,G,E,I⟩:=hrel
  have k0:(0:Int)≤(k:Int):=Int.natCast_nonneg _
  obtain⟨B,t,D,d,x⟩:=jq5 F J G E I
  by_cases ag:k<16
  ·have k1:(k:Int)<16:=by omega
   have k2:(k:Int)<32:=by omega
   have k3:(k:Int)<17:=by omega
   have c1:=F.cell k
   rw[zbg (by rw[ad.o];omega)]at c1
   have c2:=zbr G (i:=k) (by rw[rA_length];omega)
   have f2:=G.free k
   have X:Hid (rA c (k+1)=(rA c k).set k ((c.getD k 0).toNat:Int)):=jh rfl
   have y0:=(c.getD k 0).toNat_lt
   clear F J G E I
   change wr.cell? ⟨A,k,none⟩=some (.int .u8 ((c.getD k 0).toNat:Int))at c1
   generalize (c.getD k 0).toNat=y at*
   have y1:(y:Int)≤255:=by omega
   have y2:(0:Int)≤(y:Int):=by omega
   go_wp2_with fail
   go_roundw
   case rel=>exact⟨k+1,by omega,by go_num,B.o.far (by simp;omega) _,t.o.far (by simp) _,by rw[X.o];exact D.o.seti k _,d.o.far (by simp) _,Below.setCell x.o (by have:=S.o;simp;omega) _⟩
   case measure=>simp[intOf];omega
  have bd:k=16:=by omega
  subst bd
  rw[show ((16:Nat):Int)=16 from rfl]
  clear F J G E I
  have D:Hid (Blk wr (A+1+1) (ints .i64 (rB c 0)) 229):=jh D.o
  go_wp2_with fail
  go_loopw [8] (fun H wr=>∃(k:Nat),k≤4∧H=.int .i64 (3+4*(k:Int))∧Blk wr A (c.map bval) 23∧Blk wr (A+1) (ints .u8 (List.replicate 16 0)) 179∧Blk wr (A+1+1) (ints .i64 (rB c k)) 229∧Blk wr (A+1+1+1) (ints .i64 (List.replicate 17 0)) 229∧Ext w wr) (fun H _=>20 - (intOf H).toNat)
  case atStart=>exact⟨0,by omega,rfl,B.o,t.o,D.o,d.o,x.o⟩
  case round=>
   clear B t D d x
   obtain⟨k,hk,rfl,F,J,G,E,I⟩:=hrel
   have k0:(0:Int)≤(k:Int):=Int.natCast_nonneg _
   obtain⟨B,t,D,d,x⟩:=jq5 F J G E I
   by_cases ag:k<4
   ·have k1:3+4*(k:Int)<16:=by omega
    have k2:(0:Int)≤3+4*(k:Int):=by omega
    have k3:3+4*(k:Int)<17:=by omega
    have kn:(3+4*(k:Int)).toNat=3+4*k:=by omega
    have c1:=zbr G (i:=3+4*k) (by rw[rB_length];omega)
    have f1:=G.free (3+4*k)
    have hd:=rB_digit c k (3+4*k) (by omega)
    have X:Hid (rB c (k+1)=(rB c k).set (3+4*k) ((rB c k).getD (3+4*k) 0%16)):=jh rfl
    clear F J G E I
    generalize hz:(rB c k).getD (3+4*k) 0=z at*
    clear hz
    obtain⟨z0,z1⟩:=hd
    have a1:=and_i64_15 z (by omega) (by omega)
    go_wp2_with fail
    go_roundw
    case rel=>exact⟨k+1,by omega,by go_num,B.o.far (by simp;omega) _,t.o.far (by simp) _,by rw[X.o];exact D.o.seti _ _,d.o.far (by simp) _,Below.setCell x.o (by have:=S.o;simp;omega) _⟩
    case measure=>simp[intOf];omega
   have bo:k=4:=by omega
   subst bo
   rw[show ((4:Nat):Int)=4 from rfl]
   rw[show (3:Int)+4*4=19 from rfl]
   clear F J G E I
   have D:Hid (Blk wr (A+1+1) (ints .i64 (rC c 0)) 229):=jh D.o
   go_wp2_with fail
   go_loopw [9] (fun H wr=>∃(k:Nat),k≤3∧H=.int .i64 (4+4*(k:Int))∧Blk wr A (c.map bval) 23∧Blk wr (A+1) (ints .u8 (List.replicate 16 0)) 179∧Blk wr (A+1+1) (ints .i64 (rC c k)) 229∧Blk wr (A+1+1+1) (ints .i64 (List.replicate 17 0)) 229∧Ext w wr) (fun H _=>20 - (intOf H).toNat)
   case atStart=>exact⟨0,by omega,rfl,B.o,t.o,D.o,d.o,x.o⟩
   case round=>
    clear B t D d x
    obtain⟨k,hk,rfl,F,J,G,E,I⟩:=hrel
    have k0:(0:Int)≤(k:Int):=Int.natCast_nonneg _
    obtain⟨B,t,D,d,x⟩:=jq5 F J G E I
    by_cases ag:k<3
    ·have k1:4+4*(k:Int)<16:=by omega
     have k2:(0:Int)≤4+4*(k:Int):=by omega
     have k3:4+4*(k:Int)<17:=by omega
     have kn:(4+4*(k:Int)).toNat=4+4*k:=by omega
     have c1:=zbr G (i:=4+4*k) (by rw[rC_length];omega)
     have f1:=G.free (4+4*k)
     have hd:=rC_digit c k (4+4*k) (by omega)
     have X:Hid (rC c (k+1)=(rC c k).set (4+4*k) ((rC c k).getD (4+4*k) 0 / 4*4)):=jh rfl
     clear F J G E I
     generalize hz:(rC c k).getD (4+4*k) 0=z at*
     clear hz
     obtain⟨z0,z1⟩:=hd
     have a1:=and_i64_252 z z0 z1
     go_wp2_with fail
     go_roundw
     case rel=>exact⟨k+1,by omega,by go_num,B.o.far (by simp;omega) _,t.o.far (by simp) _,by rw[X.o];exact D.o.seti _ _,d.o.far (by simp) _,Below.setCell x.o (by have:=S.o;simp;omega) _⟩
     case measure=>simp[intOf];omega
    have bn:k=3:=by omega
    subst bn
    rw[show ((3:Nat):Int)=3 from rfl]
    rw[show (4:Int)+4*3=16 from rfl]
    clear F J G E I
    clear hk k0 ag
    have ah:=jh (rC_length c 3)
    have b5:=jh (fun i=>rC_digit c 3 i (by omega))
    have bl:=jh (rC_val c)
    generalize rC c 3=r at*
    go_wp2_with fail
    go_loopw [10] (fun H wr=>∃(n f:Nat) (K:List Int),f=16*n∧n≤(b.length+15) / 16∧H=.int .i64 (f:Int)∧Can17 K∧gV 256 K%(pQ:Int)=pAcc (pR c) b n∧Blk wr A (c.map bval) 23∧Blk wr (A+1) (ints .u8 (List.replicate 16 0)) 179∧Blk wr (A+1+1) (ints .i64 (r)) 229∧Blk wr (A+1+1+1) (ints .i64 (K)) 229∧Ext w wr) (fun H _=>b.length+16 - (intOf H).toNat)
    case atStart=>exact⟨0,0,_,rfl,by omega,rfl,can17_zero,by rw[gV_zeros];rfl,B.o,t.o,D.o,d.o,x.o⟩
    case round=>
     clear B t D d x
     obtain⟨n,f,K,hf,hn,rfl,b8,ax,F,J,G,E,I⟩:=hrel
     have f0:(0:Int)≤(f:Int):=Int.natCast_nonneg _
     obtain⟨Z,HN,N,ai,B,t⟩:=jq6 hf hn b8 ax F J
     obtain⟨D,d,x⟩:=jq3 G E I
     clear hf hn b8 ax F J G E I
     by_cases c9:f<b.length
     ·have f1:(f:Int)<(b.length:Int):=by omega
      have V:=Ext.alloc wr (.cells (ints .i64 (List.replicate 17 0)).toArray 229)
      obtain⟨C,hC⟩:=nxq wr.heap.size
      have P:Hid (A+1+1+1<C):=jh (by have:=d.o.lt;omega)
      have Q:Hid (Blk (wr.alloc (.cells (ints .i64 (List.replicate 17 0)).toArray 229)) C (ints .i64 (cA b n 0)) 229):=jh (by rw[hC];exact Blk.made wr (ints .i64 (List.replicate 17 0)) 229)
      obtain⟨B,t,D,d⟩:=xq4 B t D d V
      have x:=xxt x V
      clear V
      go_upto_region 19 with(fail)
      change Code.wp _ _ _ _ (wr.alloc (.cells (ints .i64 (List.replicate 17 0)).toArray 229))
      rw[←hC]
      clear hC
      generalize wr.alloc (.cells (ints .i64 (List.replicate 17 0)).toArray 229)=wc at*
      go_upto_if 59 with(fail)
      obtain⟨m,hm⟩:=nxq (min 16 (b.length - f))
      go_cut [12]from 54 to 59 (fun v wq=>v=.int .i64 (m:Int)∧wq=wc)
      case first=>
       by_cases c4:16<b.length - f
       ·have g1:(16:Int)<(b.length:Int) - (f:Int):=by omega
        have al:m=16:=by omega
        go_wp2_with fail
        go_meet
        exact⟨by rw[al];rfl,rfl⟩
       have g1:¬(16:Int)<(b.length:Int) - (f:Int):=by omega
       have al:(m:Int)=(b.length:Int) - (f:Int):=by omega
       go_wp2_with fail
       go_meet
       exact⟨by rw[al],rfl⟩
      case rest=>
       obtain⟨rfl,rfl⟩:=hcut
       have m0:(0:Int)≤(m:Int):=Int.natCast_nonneg _
       have HM:Hid (m=min 16 (b.length - 16*n)):=jh (by rw[hm,Z.o])
       have m1:m≤16:=by omega
       have ca:f+m≤b.length:=by omega
       clear hm
       obtain⟨g,og,rfl,az,b4⟩:=HC.o (by intro e;have h:=congrArg List.length e;rw[q100]at h;simp only[q121]at h;omega)
       obtain⟨bz,bk⟩:=jq2 az b4
       clear az b4
       go_wp2_with fail
       go_loopw [13] (fun H wr=>∃(i:Nat),i≤m∧H=.int .i64 (i:Int)∧Blk wr C (ints .i64 (cA b n i)) 229∧Blk wr A (c.map bval) 23∧Blk wr (A+1) (ints .u8 (List.replicate 16 0)) 179∧Blk wr (A+1+1) (ints .i64 (r)) 229∧Blk wr (A+1+1+1) (ints .i64 (K)) 229∧Ext w wr) (fun H _=>m - (intOf H).toNat)
       case atStart=>exact⟨0,by omega,rfl,Q.o,B.o,t.o,D.o,d.o,x.o⟩
       case round=>
        clear B t D d Q x
        obtain⟨i,R,rfl,U,F,J,G,E,I⟩:=hrel
        have i0:(0:Int)≤(i:Int):=Int.natCast_nonneg _
        obtain⟨B,t,D,d,Q,x⟩:=jq6 F J G E U I
        by_cases c7:i<m
        ·have i1:(i:Int)<(m:Int):=by omega
         have i2:(i:Int)<17:=by omega
         obtain⟨q,hq⟩:=nxq (f+i)
         have ay:q<b.length:=by omega
         have q1:(f:Int)+(i:Int)=(q:Int):=by omega
         have q2:(q:Int)<(b.length:Int):=by omega
         have q3:(0:Int)≤(q:Int):=by omega
         have c1:wr.cell? ⟨g,og+q,none⟩=some (.int .u8 ((b.getD q 0).toNat:Int)):=by
          have h:=bk.o q (by rw[q100];exact ay)
          rw[zbg ay]at h
          rw[←h]
          exact x.o.cell (p:=⟨g,og+q,none⟩) bz.o
         have c2:=zbr U (i:=i) (by rw[cA_length];omega)
         have f2:=U.free i
         have X:Hid (cA b n (i+1)=(cA b n i).set i ((b.getD q 0).toNat:Int)):=jh (by rw[hq,Z.o];rfl)
         have y0:=(b.getD q 0).toNat_lt
         clear F J G E U I hq
         generalize (b.getD q 0).toNat=y at*
         have y1:(y:Int)≤255:=by omega
         have y2:(0:Int)≤(y:Int):=by omega
         go_wp2_with fail
         go_roundw
         case rel=>exact⟨i+1,by omega,by go_num,by rw[X.o];exact Q.o.seti i _,B.o.far (by have:=P.o;simp;omega) _,t.o.far (by have:=P.o;simp;omega) _,D.o.far (by have:=P.o;simp;omega) _,d.o.far (by have:=P.o;simp;omega) _,Below.setCell x.o (by have:=S.o;have:=P.o;simp;omega) _⟩
         case measure=>simp[intOf];omega
        have bm:i=m:=by omega
        subst bm
        clear F J G E U I
        have i3:(i:Int)<17:=by omega
        have c2:=zbr Q.o (i:=i) (by rw[cA_length];omega)
        have f2:=Q.o.free i
        obtain⟨L,a4⟩:=nxq ((cA b n i).set i 1)
        have bh:Hid (gV 256 L=pBlk b n):=jh (by
         rw[a4]
         have h:=gV_blk b n (by have:=Z.o;omega)
         rw[←HM.o]at h
         exact h)
        have aw:Hid (L.length=17):=jh (by rw[a4,q125,cA_length])
        have aj:=jh (show ∀j,0≤L.getD j 0∧L.getD j 0≤255 from fun j=>by rw[a4];exact blk_digit b n i m1 j)
        have b3:Hid (Blk (wr.setCell ⟨C,i,none⟩ (.int .i64 1)) C (ints .i64 L) 229):=jh (by rw[a4];exact Q.o.seti i 1)
        have a6:=jh (B.o.far (a:=⟨C,i,none⟩) (by have:=P.o;simp;omega) (.int .i64 1))
        have a5:=jh (t.o.far (a:=⟨C,i,none⟩) (by have:=P.o;simp;omega) (.int .i64 1))
        have ar:=jh (D.o.far (a:=⟨C,i,none⟩) (by have:=P.o;simp;omega) (.int .i64 1))
        have a2:Hid (Blk (wr.setCell ⟨C,i,none⟩ (.int .i64 1)) (A+1+1+1) (ints .i64 (sA K L 0)) 229):=jh (d.o.far (a:=⟨C,i,none⟩) (by have:=P.o;simp;omega) (.int .i64 1))
        have a7:Hid (Ext w (wr.setCell ⟨C,i,none⟩ (.int .i64 1))):=jh (Below.setCell x.o (by have:=S.o;have:=P.o;simp;omega) _)
        go_upto_region 27 with(fail)
        clear B t D d Q x c2 f2 a4
        generalize wr.setCell ⟨C,i,none⟩ (.int .i64 1)=wd at*
        go_wp2_with fail
        go_loopw [14] (fun H wr=>∃(j:Nat),j≤17∧H=.int .i64 (j:Int)∧Blk wr C (ints .i64 L) 229∧Blk wr A (c.map bval) 23∧Blk wr (A+1) (ints .u8 (List.replicate 16 0)) 179∧Blk wr (A+1+1) (ints .i64 (r)) 229∧Blk wr (A+1+1+1) (ints .i64 (sA K L j)) 229∧Ext w wr) (fun H _=>17 - (intOf H).toNat)
        case atStart=>exact⟨0,by omega,rfl,b3.o,a6.o,a5.o,ar.o,a2.o,a7.o⟩
        case round=>
         clear a6 a5 ar a2 b3 a7
         obtain⟨j,hj,rfl,U,F,J,G,E,I⟩:=hrel
         have j0:(0:Int)≤(j:Int):=Int.natCast_nonneg _
         obtain⟨B,t,D,d,Q,x⟩:=jq6 F J G E U I
         have a0:Hid ((sA K L j).length=17):=jh (by rw[sA_length];exact N.o.1)
         by_cases c5:j<17
         ·have j1:(j:Int)<17:=by omega
          have c1:=zbr E (i:=j) (by rw[a0.o];omega)
          have c2:=zbr U (i:=j) (by rw[aw.o];omega)
          have f1:=E.free j
          have c3:=sA_digit K L N.o.1 (can17_255 N.o) aj.o j j
          have bf:=aj.o j
          have X:Hid (sA K L (j+1)=(sA K L j).set j ((sA K L j).getD j 0+L.getD j 0)):=jh rfl
          clear F J G E U I
          generalize (sA K L j).getD j 0=y at*
          generalize L.getD j 0=z at*
          obtain⟨y0,y1⟩:=c3
          obtain⟨z0,z1⟩:=bf
          go_wp2_with fail
          go_region
          go_wp2_with fail
          go_roundw
          case rel=>exact⟨j+1,by omega,by go_num,Q.o.far (by have:=P.o;simp;omega) _,B.o.far (by simp;omega) _,t.o.far (by simp;omega) _,D.o.far (by simp) _,by rw[X.o];exact d.o.seti j _,Ext.trans (b:=wr.setCell ⟨A+1+1+1,j,none⟩ (.int .i64 (y+z))) (Below.setCell x.o (by have:=S.o;simp;omega) _) (Ext.drew _)⟩
          case measure=>simp[intOf];omega
         have bs:j=17:=by omega
         subst bs
         rw[show ((17:Nat):Int)=17 from rfl]
         clear F J G E U I
         obtain⟨b0,bw⟩:=jq2 (sA_digit K L N.o.1 (can17_255 N.o) aj.o 17) (sA_full K L N.o.1 aw.o)
         generalize sA K L 17=s at*
         have aa:=jh (mul17 a0.o ah.o b0.o b5.o)
         have av:=jh (fun w=>times17_any s r w a0.o ah.o b0.o b5.o)
         generalize qThree (tList s r 17)=Hm at*
         obtain⟨bt,c0,bj⟩:=jq3 (zev a0.o) (zev ah.o) (zev aa.o.1.1)
         have br:Hid ((ints .i64 Hm).length=(ints .i64 s).length):=jh (by rw[zaa,zaa,aa.o.1.1,a0.o])
         go_wp2_with (first|(refine slb (A+1+1+1) d.o q144 bt.o ?_)|(refine slb (A+1+1) D.o q144 c0.o ?_))
         refine(av.o wr).mono ?_
         rintro e w5 ⟨rfl,O⟩
         obtain⟨B,t,D,d⟩:=xq4 B t D d O
         have x:=xxt x O
         clear O av
         have c8:(f:Int)+16≤9223372036854775807:=by have:=ba.o;omega
         go_wp2_with (refine ssb (A+1+1+1) (ints .i64 Hm) d.o br.o bj.o (zah _ _) ?_;intro W M Y)
         go_roundw
         case rel=>
          refine⟨n+1,f+16,Hm,by have:=Z.o;omega,by have:=Z.o;omega,by go_num,aa.o.1,?_,B.o.grown Y (fun e=>by have h:=Option.some.inj e;omega),t.o.grown Y (fun e=>by have h:=Option.some.inj e;omega),D.o.grown Y (fun e=>by have h:=Option.some.inj e;omega),M,zab x.o Y (by have:=S.o;omega)⟩
          rw[aa.o.2,bw.o,bh.o,bl.o]
          show _=(pAcc (pR c) b n+pBlk b n)*pR c%(pQ:Int)
          rw[←ai.o,Int.mul_emod,Int.add_emod,Int.emod_add_emod]
          rw[Int.mul_emod ((gV 256 K%(pQ:Int)+pBlk b n)),Int.emod_add_emod]
          simp
         case measure=>simp[intOf];omega
     have b9:n=(b.length+15) / 16:=by have:=Z.o;have:=HN.o;omega
     have b1:Hid (pAcc (pR c) b n=pNum c b):=jh (by rw[b9];rfl)
     obtain⟨au,a9⟩:=jq2 (can17_three N.o) (wOut_val (can17_three N.o).1)
     have b6:=jh (fun w=>whole17_any K w N.o)
     have b2:=jh (zev N.o.1)
     clear b9
     go_wp2_with (refine slb (A+1+1+1) d.o q144 b2.o ?_)
     refine(b6.o wr).mono ?_
     rintro e w5 ⟨rfl,O⟩
     obtain⟨B,t,d⟩:=xq3 B t d O
     have x:=xxt x O
     clear O b6 D
     obtain⟨h,hh⟩:=nxq (wOut (qThree K))
     have a3:Hid (h.length=17):=jh (by rw[hh];exact a9.o.1)
     have aq:Hid (∀i,i<17→0≤h.getD i 0∧h.getD i 0<256):=jh (by rw[hh];exact a9.o.2.1)
     have bu:Hid (gV 256 h=pNum c b):=jh (by rw[hh,a9.o.2.2,au.o.2,ai.o,b1.o])
     rw[←hh]
     clear hh au a9 b1 ai
     obtain⟨b7,am⟩:=jq2 (tag_digits ad.o a3.o aq.o bu.o) (zev a3.o)
     have ao:Hid ((ints .i64 h).length=(ints .i64 K).length):=jh (by rw[zaa,zaa,a3.o,N.o.1])
     go_upto_region 33 with(refine ssb (A+1+1+1) (ints .i64 h) d.o ao.o am.o (zah _ _) ?_;intro W M Y)
     have B:=jh (B.o.grown Y (fun e=>by have h:=Option.some.inj e;omega))
     have t:=jh (t.o.grown Y (fun e=>by have h:=Option.some.inj e;omega))
     have x:=jh (zab x.o Y (by have:=S.o;omega))
     have d:=jh M
     clear M Y ao am b2 N Z HN
     have a0:Hid (((c.drop 16).take 16).length=16):=jh (by rw[q107,q120,ad.o];rfl)
     have bc:Hid (∀i,i<16→((c.drop 16).take 16).getD i 0=c.getD (16+i) 0):=jh (fun i R=>by
      simp[List.getD,List.getElem?_take,R,List.getElem?_drop])
     have an:Hid (∀i,0≤h.getD i 0∧h.getD i 0≤255):=jh (fun i=>by
      rcases q114 i 17 with R|R
      ·have:=aq.o i R
       omega
      rw[zeq (by rw[a3.o];exact R)]
      omega)
     have be:=jh (uT_range an.o ((c.drop 16).take 16))
     generalize (c.drop 16).take 16=s at*
     obtain⟨o,ho⟩:=nxq (polyTag c b)
     have HO:=jh ho
     have a8:Hid (o.length=16):=jh (by rw[ho];exact zec _ _)
     have bx:Hid (∀i,i<16→tD h s i=((o.getD i 0).toNat:Int)):=jh (fun i R=>by
      have e:=congrArg (fun l=>l.getD i 0) b7.o
      rw[←ho]at e
      have e1:(tL h s 16).getD i 0=tD h s i:=by
       simp only[tL,List.getD_eq_getElem?_getD,List.getElem?_map,List.getElem?_range R]
       rfl
      have bi:i<o.length:=by rw[ho,zec];exact R
      have e2:(o.map fun b=>(b.toNat:Int)).getD i 0=((o.getD i 0).toNat:Int):=by simp[List.getD,bi]
      rw[←e1,←e2]
      exact e)
     clear ho b7
     obtain⟨T,hT⟩:=nxq W.heap.size
     have ae:Hid (A+1+1+1<T):=jh (by have:=d.o.lt;omega)
     have V:=Ext.alloc W (.cells (ints .u8 (List.replicate 16 0)).toArray 179)
     have H6:Hid (Blk (W.alloc (.cells (ints .u8 (List.replicate 16 0)).toArray 179)) T ((fill 16 o 0).map bval) 179):=jh (by rw[fill_start,hT];exact Blk.made W (ints .u8 (List.replicate 16 0)) 179)
     have a6:=xxb B V
     have a5:=xxb t V
     have a2:=xxb d V
     have a7:=xxt x V
     clear V
     go_upto_region 34 with(fail)
     change Code.wp _ _ _ _ (W.alloc (.cells (ints .u8 (List.replicate 16 0)).toArray 179))
     rw[←hT]
     clear B t d x hT
     generalize W.alloc (.cells (ints .u8 (List.replicate 16 0)).toArray 179)=w8 at*
     go_wp2_with fail
     go_loopw [16,17] (fun uv H wr=>∃(i:Nat),i≤16∧uv=.int .i64 (uT h s i)∧H=.int .i64 (i:Int)∧Blk wr A (c.map bval) 23∧Blk wr (A+1) (ints .u8 (List.replicate 16 0)) 179∧Blk wr (A+1+1+1) (ints .i64 h) 229∧Blk wr T ((fill 16 o i).map bval) 179∧Ext w wr) (fun _ H _=>16 - (intOf H).toNat)
     case atStart=>exact⟨0,by omega,rfl,rfl,a6.o,a5.o,a2.o,H6.o,a7.o⟩
     case round=>
      clear a6 a5 a2 H6 a7
      obtain⟨i,R,rfl,rfl,F,J,E,M,I⟩:=hrel
      have i0:(0:Int)≤(i:Int):=Int.natCast_nonneg _
      obtain⟨B,t,d,H6,x⟩:=jq5 F J E M I
      by_cases ac:i<16
      ·have i1:(i:Int)<16:=by omega
       have i2:(i:Int)<17:=by omega
       obtain⟨q,hq⟩:=nxq (16+i)
       have q1:(16:Int)+(i:Int)=(q:Int):=by omega
       have q2:(q:Int)<32:=by omega
       have q3:(0:Int)≤(q:Int):=by omega
       have c1:=zbr E (i:=i) (by rw[a3.o];omega)
       have c2:=F.cell q
       rw[zbg (by rw[ad.o];omega)]at c2
       have ak:=bc.o i ac
       rw[←hq]at ak
       rw[←ak]at c2
       obtain⟨u6,c6⟩:∃u,wr.cell? ⟨T,i,none⟩=some u:=⟨_,by rw[M.cell,zbg (by rw[zeh a8.o (by omega)];exact ac)]⟩
       have f6:=M.free i
       have hu:=be.o i
       have hz:=an.o i
       have hy:=(s.getD i 0).toNat_lt
       have HU:Hid (uT h s (i+1)=(uT h s i+h.getD i 0+((s.getD i 0).toNat:Int)) / 256):=jh rfl
       have HD:Hid ((uT h s i+h.getD i 0+((s.getD i 0).toNat:Int))%256=((o.getD i 0).toNat:Int)):=jh (bx.o i ac)
       clear F J E M I hq ak
       change wr.cell? ⟨A,q,none⟩=some (.int .u8 ((s.getD i 0).toNat:Int))at c2
       generalize (s.getD i 0).toNat=y at*
       generalize h.getD i 0=z at*
       generalize uT h s i=u at*
       obtain⟨u0,u1⟩:=hu
       obtain⟨z0,z1⟩:=hz
       have y1:(y:Int)≤255:=by omega
       have y2:(0:Int)≤(y:Int):=by omega
       have a1:=zct (u+z+(y:Int)) (by omega) (by omega)
       go_wp2_with fail
       go_region
       go_wp2_with fail
       go_roundw
       case rel=>
        refine⟨i+1,by omega,by rw[HU.o],by go_num,B.o.far (by have:=ae.o;simp;omega) _,t.o.far (by have:=ae.o;simp;omega) _,d.o.far (by have:=ae.o;simp;omega) _,?_,Ext.trans (b:=wr.setCell ⟨T,i,none⟩ (.int .u8 ((u+z+(y:Int))%256))) (Below.setCell x.o (by have:=S.o;have:=ae.o;simp;omega) _) (Ext.drew _)⟩
        rw[←zdg a8.o ac HD.o]
        exact H6.o.set i _
       case measure=>simp[intOf];omega
      have bq:i=16:=by omega
      subst bq
      rw[fill_full a8.o]at M
      have H6:=jh M
      have af:Hid ((Tryz.prog.info? 179).map (·.size)=some (o.map bval).length):=jh (tag_size a8.o)
      have bg:Hid ((o.map bval).length=(ints .u8 (List.replicate 16 0)).length):=jh (by rw[q100,a8.o,zaa,q112])
      clear F J E M I
      go_wp2_with (first|(refine slb T H6.o Tryz.underlying179 af.o ?_)|(refine ssb (A+1) (o.map bval) t.o bg.o af.o (zac _) ?_;intro w9 bb bp))
      refine bodyPost_ret (zam rfl _ (A+1) _ _ _ _ rfl bb Tryz.underlying179 af.o) rfl ?_
      exact⟨by rw[HO.o],zab x.o bp (by have:=S.o;omega)⟩
theorem byte_one:(Tryz.prog.info? 5).map (·.size)=some 1:=by kernel_rfl
theorem fill_two(s c:List UInt8):(s++z16 s.length++c)++z16 (s++z16 s.length++c).length=s++(z16 s.length++(c++z16 c.length)):=by
 have e:z16 (s++z16 s.length++c).length=z16 c.length:=by
  unfold z16
  simp only[q105,q112]
  congr 1
  omega
 rw[e]
 simp[q109]
theorem aeaMsg_length(c s:List UInt8):(aeaMsg c s).length≤c.length+s.length+46:=by
 unfold aeaMsg
 simp only[q105,z16_length,zaq]
 omega
theorem rTag_any(d nb c s:List UInt8)(cv sv:Value)(w:World)(hk:d.length=32)(U:nb.length=12)(hc:Row1 w cv (c.map bval))(hs:Row1 w sv (s.map bval))(cc:c.length≤1000000000)(cf:s.length≤1000000000):
  Calls Tryz.prog 139 #[.agg (d.map bval).toArray,.agg (nb.map bval).toArray,cv,sv] w fun e w'=>e=.returned (.agg ((aeaTag d nb c s).map bval).toArray)∧Below w.heap.size w w':=by
 obtain⟨B,hi,an,ar,bb⟩:=info_parts Tryz.info5
 obtain⟨G,K,J,E,ce,cg⟩:=jq6 hi an ar bb hc hs
 obtain⟨ac,cn,ao,c1,c2,_⟩:=id hc
 obtain⟨ad,cs,bo,s1,s2,_⟩:=id hs
 rw[q100]at ao c1 bo s1
 subst ao bo
 unfold maxLen at c2 s2
 obtain⟨u,i,HB⟩:=jq3 cc cf (boxes3 w (d.map bval) (nb.map bval) (ints .u8 (List.replicate 16 0)) 23 145 179)
 have c0:Hid ((Tryz.prog.info? 23).map (·.size)=some (d.map bval).length):=jh (zaf hk)
 have c9:Hid ((Tryz.prog.info? 145).map (·.size)=some (nb.map bval).length):=jh (nonce_size U)
 obtain⟨ck,cm⟩:=jq2 hk U
 clear hi an ar bb hc hs hk U
 go_enter Tryz.func139,Tryz.ntmps139
 go_upto_region 1 with(fail)
 obtain⟨x,t,b,a⟩:=HB.o
 change Code.wp _ _ _ _ (((w.alloc (.cells (d.map bval).toArray 23)).alloc (.cells (nb.map bval).toArray 145)).alloc (.cells (ints .u8 (List.replicate 16 0)).toArray 179))
 generalize ((w.alloc (.cells (d.map bval).toArray 23)).alloc (.cells (nb.map bval).toArray 145)).alloc (.cells (ints .u8 (List.replicate 16 0)).toArray 179)=wa at*
 obtain⟨A,hA⟩:=nxq w.heap.size
 have c8:Hid (w.heap.size≤A):=jh (by omega)
 rw[←hA]at x t b⊢
 obtain⟨x,t,b⟩:=jq3 x t b
 have a:Hid (Ext w wa):=jh a
 clear hA HB
 go_wp2_with (first|(refine slb A x.o q102 c0.o ?_)|(refine slb (A+1) t.o q170 c9.o ?_))
 refine(rBlock_any d nb 0 wa ck.o cm.o (by decide) (by decide)).mono ?_
 rintro e z ⟨rfl,l⟩
 have b:=xxb b l
 have a:=xxt a l
 clear l x t
 have c4:Hid (oneKey d nb=(chaBlock d (BitVec.ofInt 32 0) nb).take 32):=jh rfl
 have N:=jh (chaBlock_length d (BitVec.ofInt 32 0) nb)
 generalize chaBlock d (BitVec.ofInt 32 0) nb=k at*
 obtain⟨HZ,bk⟩:=jq2 (Blk.made z (ints .u8 (List.replicate 64 0)) 26) (Ext.alloc z (.cells (ints .u8 (List.replicate 64 0)).toArray 26))
 have cl:Hid ((Tryz.prog.info? 26).map (·.size)=some (k.map bval).length):=jh (zep N.o)
 have b2:Hid ((k.map bval).length=(ints .u8 (List.replicate 64 0)).length):=jh (by rw[q100,N.o,zaa,q112])
 go_upto_region 2 with(refine ssb z.heap.size (k.map bval) HZ.o b2.o cl.o (zac _) ?_;intro p a9 ba)
 have a3:=jh (zab bk.o ba (q101 _))
 have b:=xxb b a3.o
 have a:=xxt a a3.o
 obtain⟨S,hS⟩:=nxq z.heap.size
 rw[←hS]at a9⊢
 have q:=jh a9
 clear a9 ba HZ bk a3 b2 hS
 have Q:=Ext.alloc p (.cells (ints .u8 (List.replicate 32 0)).toArray 23)
 obtain⟨O,hO⟩:=nxq p.heap.size
 have b8:Hid (A+1+1<O∧w.heap.size≤O):=jh (by have:=b.o.lt;have:=a.o.size;omega)
 have f:Hid (Blk (p.alloc (.cells (ints .u8 (List.replicate 32 0)).toArray 23)) O ((List.replicate 32 (0:UInt8)).map bval) 23):=jh (by rw[hO];exact Blk.made p (ints .u8 (List.replicate 32 0)) 23)
 obtain⟨b,q⟩:=xq2 b q Q
 have a:=xxt a Q
 clear Q
 go_upto_region 3 with(fail)
 change Code.wp _ _ _ _ (p.alloc (.cells (ints .u8 (List.replicate 32 0)).toArray 23))
 rw[←hO]
 clear hO
 generalize p.alloc (.cells (ints .u8 (List.replicate 32 0)).toArray 23)=w3 at*
 refine swf 2 1 2 ?_
 refine zde (.slice (some ⟨O,0,none⟩) 32 32) (by rfl) (fun w hw=>by go_simp) ?_
 simp only[nm]
 refine zde (.slice (some ⟨S,0,none⟩) 32 64) (by rfl) (fun w hw=>by go_simp) ?_
 simp only[nm]
 refine det_nil (end_store (k:=2) rfl (by kernel_rfl) (by kernel_rfl) (by kernel_rfl) rfl (fun w4 am=>?_))
 obtain⟨b,q,f⟩:=xq3 b q f am
 have a:=xxt a am
 clear am
 have n:Hid ((k.take 32).length=32):=jh (by rw[q107,N.o];rfl)
 refine zbu _ _ 24 24 rfl 5 q104 byte_one _ _ _ _ _ _ rfl rfl O 0 _ _ f.o ((k.take 32).map bval) (by rw[q100,n.o];rfl) (fun _=>⟨rfl,⟨S,0,none⟩,rfl,fun j v R=>?_⟩) (by rw[q100,n.o];simp) (zac _) ?_
 ·have ci:j<32:=by
   rcases q114 j 32 with h|h
   ·exact h
   rw[List.getElem?_eq_none (by rw[q100,n.o];omega)]at R;cases R
  rw[WideShapes.add_plain,q117,q.o.cell,←R,List.getElem?_map,List.getElem?_map,List.getElem?_take,if_pos ci]
 intro H af ak
 have b6:splice ((List.replicate 32 (0:UInt8)).map bval) 0 ((k.take 32).map bval)=(k.take 32).map bval:=by
  rw[splice_bytes,n.o]
  simp
 rw[b6]at af
 have b:=jh (b.o.grown ak (by have:=b8.o;simp;omega))
 obtain⟨a,f⟩:=jq2 (zab a.o ak b8.o.2) af
 clear af ak q b6
 generalize goInt ((k.take 32).map bval).length=g1
 simp only[nm]
 rw[←c4.o]at n f
 have cb:Hid ((Tryz.prog.info? 23).map (·.size)=some ((oneKey d nb).map bval).length):=jh (zaf n.o)
 have cj:Hid (aeaTag d nb c s=polyTag (oneKey d nb) (aeaMsg c s)):=jh rfl
 generalize oneKey d nb=ok at*
 -- what is tagged
 obtain⟨base,b9⟩:=nxq H.heap.size
 have g:Hid (base≤H.heap.size):=jh (by omega)
 have bt:Hid (w.heap.size≤base):=jh (by rw[b9];exact a.o.size)
 have ax:Hid (A+1+1<base∧O<base):=jh (by have:=b.o.lt;have:=f.o.lt;omega)
 have ah:Hid (H.ownsRow base 5 1 (.slice none 0 0) 0 []):=jh (World.ownsRow_nil _ _ _ _)
 have bp:=jh (cg.o.below a.o)
 have P:Hid ((s.map bval).length=s.length):=jh (q100 _)
 have bi:Hid ((c.map bval).length=c.length):=jh (q100 _)
 clear b9
 go_wp2_with (at_builtin;refine zad rfl _ _ 24 rfl base 5 B (.int .u8 0) 1 q104 G.o K.o J.o E.o rfl _ 0 [] rfl ah.o rfl bp.o (zac _) (by rw[P.o];have:=i.o;unfold maxLen;omega) (by rw[P.o];have:=i.o;omega) g.o ?_;intro v6 w6 b3 b7)
 have Z:=jh (below_own (Below.refl base H) ah.o b7 g.o)
 have bh:Hid (w6.ownsRow base 5 1 v6 s.length (s.map bval)):=jh (zcp b3 (by rw[P.o];omega) rfl)
 clear b3 b7 ah bp
 have bq:Hid (base≤w6.heap.size):=jh (q119 g.o Z.o.size)
 go_wp2_with fail
 refine(rFilled_any v6 s base w6 bh.o bq.o (by have:=i.o;omega)).mono ?_
 rintro e w7 ⟨x7,rfl,T,be⟩
 have F:=jh (Z.o.trans be)
 obtain⟨r,y⟩:=nxq (s++z16 s.length)
 have a7:Hid (r.length≤s.length+16):=jh (by rw[y,q105,z16_length];omega)
 rw[←y]at T
 obtain⟨b5,Y⟩:=jq2 y T
 clear T be y bh Z bq
 have bj:Hid (Ext w w7):=jh (Below.trans a.o (Below.mono F.o bt.o))
 have au:=jh (ce.o.below bj.o)
 have al:Hid (base≤w7.heap.size):=jh (q119 g.o F.o.size)
 have a0:Hid (r.length+(c.map bval).length≤3000000000):=jh (by rw[bi.o];have:=a7.o;have:=u.o;have:=i.o;omega)
 go_wp2_with (at_builtin;refine zad rfl _ _ 24 rfl base 5 B (.int .u8 0) 1 q104 G.o K.o J.o E.o rfl _ _ _ rfl Y.o rfl au.o (zac _) (by have:=a0.o;unfold maxLen;omega) (by have:=a0.o;omega) al.o ?_;intro v8 w8 bm az)
 have X:=jh (below_own F.o Y.o az al.o)
 have av:Hid (w8.ownsRow base 5 1 v8 (r++c).length ((r++c).map bval)):=jh (zcp bm (by rw[bi.o,q105]) (by rw[q110]))
 clear bm az Y F al au bj a0
 have bv:Hid (base≤w8.heap.size):=jh (q119 g.o X.o.size)
 go_wp2_with fail
 refine(rFilled_any v8 (r++c) base w8 av.o bv.o (by rw[q105];have:=a7.o;have:=u.o;have:=i.o;omega)).mono ?_
 rintro e w9 ⟨x9,rfl,C,ap⟩
 have aj:=jh (X.o.trans ap)
 have e9:=fill_two s c
 rw[←b5.o]at e9
 rw[e9]at C
 have M:Hid (aeaMsg c s=(s++(z16 s.length++(c++z16 c.length)))++bytesN 8 s.length++bytesN 8 c.length):=jh (by unfold aeaMsg;simp[q109])
 have D:Hid ((s++(z16 s.length++(c++z16 c.length))).length≤2000000100):=jh (by simp only[q105,z16_length];have:=u.o;have:=i.o;omega)
 obtain⟨L,b4⟩:=nxq (s++(z16 s.length++(c++z16 c.length)))
 rw[←b4]at C M D
 have bu:=jh C
 clear C ap e9 b4 av X bv b5 a7
 have br:Hid (base≤w9.heap.size):=jh (q119 g.o aj.o.size)
 go_wp2_with fail
 refine(rLength_any s.length w9 (by have:=i.o;omega)).mono ?_
 rintro e c6 ⟨cr,rfl,bc,a1⟩
 obtain⟨ab,a4,bd⟩:=jq3 (aj.o.trans (Below.mono a1 br.o)) (zbn bu.o a1) (Row1.of_own bc)
 have aa:Hid (base≤c6.heap.size):=jh (q119 g.o ab.o.size)
 have a2:Hid (L.length+((bytesN 8 s.length).map bval).length≤2000000200):=jh (by rw[q100,zaq];have:=D.o;omega)
 clear bc a1 bu aj br
 go_wp2_with (at_builtin;refine zad rfl _ _ 24 rfl base 5 B (.int .u8 0) 1 q104 G.o K.o J.o E.o rfl _ _ _ rfl a4.o rfl bd.o (zac _) (by have:=a2.o;unfold maxLen;omega) (by have:=a2.o;omega) aa.o ?_;intro c3 W ay b0)
 have ae:=jh (below_own ab.o a4.o b0 aa.o)
 have bn:Hid (W.ownsRow base 5 1 c3 (L++bytesN 8 s.length).length ((L++bytesN 8 s.length).map bval)):=jh (zcp ay (by rw[q100,q105]) (by rw[q110]))
 clear ay b0 a4 ab aa bd a2
 have bg:Hid (base≤W.heap.size):=jh (q119 g.o ae.o.size)
 refine(rLength_any c.length W (by have:=u.o;omega)).mono ?_
 rintro e cd ⟨cq,rfl,bs,ai⟩
 obtain⟨ag,a6,bf⟩:=jq3 (ae.o.trans (Below.mono ai bg.o)) (zbn bn.o ai) (Row1.of_own bs)
 have V:Hid (base≤cd.heap.size):=jh (q119 g.o ag.o.size)
 have a8:Hid ((L++bytesN 8 s.length).length+((bytesN 8 c.length).map bval).length≤2000000300):=jh (by rw[q100,zaq,q105,zaq];have:=D.o;omega)
 clear bs ai bn ae bg
 go_upto_region 7 with(at_builtin;refine zad rfl _ _ 24 rfl base 5 B (.int .u8 0) 1 q104 G.o K.o J.o E.o rfl _ _ _ rfl a6.o rfl bf.o (zac _) (by have:=a8.o;unfold maxLen;omega) (by have:=a8.o;omega) V.o ?_;intro c7 a5 aw b1)
 have I:=jh (below_own ag.o a6.o b1 V.o)
 have bl:Hid (a5.ownsRow base 5 1 c7 (aeaMsg c s).length ((aeaMsg c s).map bval)):=jh (zcp aw (by rw[M.o,q100];simp only[q105]) (by rw[M.o];simp only[q110]))
 clear aw b1 a6 ag V bf a8
 have b:=jh (b.o.same (I.o.block _ ax.o.1))
 have f:=jh (f.o.same (I.o.block _ ax.o.2))
 have a:Hid (Ext w a5):=jh (Below.trans a.o (Below.mono I.o bt.o))
 have c5:=jh (Row1.of_own bl.o)
 have bw:Hid ((aeaMsg c s).length≤1099511627776):=jh (by have:=aeaMsg_length c s;have:=u.o;have:=i.o;omega)
 generalize aeaMsg c s=m at*
 clear M bl I D
 have aq:Hid ((Tryz.prog.info? 179).map (·.size)=some ((polyTag ok m).map bval).length):=jh (tag_size (zec _ _))
 have bx:Hid (((polyTag ok m).map bval).length=(ints .u8 (List.replicate 16 0)).length):=jh (by rw[q100,zec,zaa,q112])
 go_wp2_with (refine slb O f.o q102 cb.o ?_)
 refine(rPoly_any ok m _ a5 n.o c5.o bw.o).mono ?_
 rintro e cp ⟨rfl,l⟩
 have b:=xxb b l
 have a:=xxt a l
 clear l
 go_wp2_with (refine ssb (A+1+1) ((polyTag ok m).map bval) b.o bx.o aq.o (zac _) ?_;intro co bz ca)
 refine bodyPost_ret (zam rfl _ (A+1+1) _ _ _ _ rfl bz Tryz.underlying179 aq.o) rfl ?_
 exact⟨by rw[cj.o],zab a.o ca (by have:=c8.o;omega)⟩
theorem res_two {a:Func} {i j:Nat}(b:a.results=#[.tmp i,.tmp j])(tmps:Array Value)(w:World):
  (results a tmps).run Tryz.prog w=.ok (.tuple #[tmps.getD i undef,tmps.getD j undef]) w:=by
 unfold results
 rw[b]
 simp
end Go.Proofs.YtgnfdonbholcdaaGreatDoor


