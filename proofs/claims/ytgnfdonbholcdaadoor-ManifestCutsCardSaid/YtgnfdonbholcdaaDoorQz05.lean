/- Lemmas. -/
import Derived.Test.YtgnfdonbholcdaaDoorQz04
namespace Go.Proofs.YtgnfdonbholcdaaDoor
set_option linter.unusedVariables false
set_option maxRecDepth 100000
set_option maxHeartbeats 32000000
set_option linter.unusedSimpArgs false
open Go.RowKit
theorem rsmall_q(n:Int)(r:Bool)(w:World)(a:smallB n=r):Calls Tryd.prog 27 #[.int .i64 n] w fun e b=>e=.returned (.bool r)∧w=b:=by
 subst a
 exact rsmall_any n w
theorem own_lenB {w:World} {base n:Nat} {x:Value} {l:List UInt8}(h:w.ownsRow base 5 1 x n (l.map bval)):l.length=n:=by
 have e:=h.1
 rw[q100]at e
 omega
theorem body_said {ver blk cid:Int} {root wr a b c:List UInt8}:(Man.mk ver blk root wr cid a b c).body=((((([80,67,77,49]++be8s [ver,blk])++root)++wr)++be8s [cid])++a)++b:=by
 unfold Man.body
 simp only[q107]
theorem rBody_any(m:Man)(wv:Value)(w:World)(a:m.Arr)(hw:Row1 w wv (m.wr.map bval)):
  Calls Tryd.prog 11 #[.agg (manC m wv).toArray] w fun e F=>∃x,e=.returned (.tuple #[x,.int .i64 m.err])∧F.ownsRow w.heap.size 5 1 x m.bodL.length (m.bodL.map bval)∧Below w.heap.size w F:=by
 obtain⟨i0,hi,ac,ah,ao⟩:=info_parts Tryd.info5
 obtain⟨ij,ak,ai,am⟩:=info_two (P:=Tryd.prog) (t:=3) (z:=.int .i64 0) (n:=1) (by kernel_rfl)
 obtain⟨a0,Z,Y,U,b1,b2⟩:=jq6 hi ac ah ao ak ai
 have b0:=jh am
 clear hi ac ah ao ak ai am
 obtain⟨ad,cp,af,aj,au,_⟩:=id hw
 rw[q100]at af aj
 subst af
 obtain⟨r,q⟩:=jq2 a (Ext.alloc w (.cells (manC m (.slice ad m.wr.length cp)).toArray 30))
 obtain⟨ar,V⟩:=jq2 (hw.below q.o) (Blk.made w (manC m (.slice ad m.wr.length cp)) 30)
 clear a hw aj au
 go_enter Tryd.func11,Tryd.ntmps11
 go_upto_region 1 with(fail)
 change Code.wp _ _ _ _ (w.alloc (.cells (manC m (.slice ad m.wr.length cp)).toArray 30))
 generalize w.alloc (.cells (manC m (.slice ad m.wr.length cp)).toArray 30)=b at*
 obtain⟨A,hA⟩:=nxq w.heap.size
 rw[←hA]at V⊢
 clear hA
 have a8:=V.o.lt
 obtain⟨p0,p1,p2,p3,p4,_,p6,p7,_⟩:=man_parts V.o r.o
 obtain⟨ax,ae⟩:=jq2 p1 p3
 have av:=jh (row_rng (n:=32) p2 a8 (by rw[q100,r.o.root]) (by unfold maxLen;omega))
 have ap:=jh (row_rng (n:=32) p6 a8 (by rw[q100,r.o.ckey]) (by unfold maxLen;omega))
 have aw:=jh (row_rng (n:=64) p7 a8 (by rw[q100,r.o.csig]) (by unfold maxLen;omega))
 obtain⟨az,X⟩:=jq2 p0 p4
 clear p2 p6 p7 V
 have I:=jh (@Man.no m)
 cases h1:smallB m.ver with
 |false=>
  have f:=jh (I.o (fun h=>by rw[h1]at h;cases h.1))
  go_wp2_with fail
  refine(rsmall_q m.ver false b h1).mono ?_
  rintro e w3 ⟨rfl,rfl⟩
  go_wp2_with fail
  refine bodyPost_ret (zec rfl _ _) rfl ?_
  exact⟨_,by rw[f.o.1];rfl,by rw[f.o.2];exact World.ownsRow_nil _ _ _ _,q.o⟩
 |true=>
 have HV:=jh h1
 go_wp2_with fail
 refine(rsmall_q m.ver true b h1).mono ?_
 rintro e w3 ⟨rfl,rfl⟩
 clear h1
 by_cases h2:m.blk<1
 ·have an:decide (m.blk<1)=true:=decide_eq_true h2
  have f:=jh (I.o (fun h=>absurd h.2.1 (by omega)))
  go_wp2_with fail
  refine bodyPost_ret (zec rfl _ _) rfl ?_
  exact⟨_,by rw[f.o.1];rfl,by rw[f.o.2];exact World.ownsRow_nil _ _ _ _,q.o⟩
 have an:decide (m.blk<1)=false:=decide_eq_false h2
 by_cases h3:32<m.blk
 ·have ag:decide (32<m.blk)=true:=decide_eq_true h3
  have f:=jh (I.o (fun h=>absurd h.2.2.1 (by omega)))
  go_wp2_with fail
  refine bodyPost_ret (zec rfl _ _) rfl ?_
  exact⟨_,by rw[f.o.1];rfl,by rw[f.o.2];exact World.ownsRow_nil _ _ _ _,q.o⟩
 have ag:decide (32<m.blk)=false:=decide_eq_false h3
 by_cases N:m.wr.length=80
 ·cases h5:smallB m.cid with
  |false=>
   have f:=jh (I.o (fun h=>by rw[h5]at h;cases h.2.2.2.2))
   go_wp2_with fail
   refine(rsmall_q m.cid false b h5).mono ?_
   rintro e w3 ⟨rfl,rfl⟩
   go_wp2_with fail
   refine bodyPost_ret (zec rfl _ _) rfl ?_
   exact⟨_,by rw[f.o.1];rfl,by rw[f.o.2];exact World.ownsRow_nil _ _ _ _,q.o⟩
  |true=>
  have f:=jh (Man.yes (Man.ok_of HV.o (by omega) (by omega) N h5))
  have aq:=jh (Man.body_length r.o N)
  go_wp2_with fail
  refine(rsmall_q m.cid true b h5).mono ?_
  rintro e w3 ⟨rfl,rfl⟩
  have a5:=jh N
  clear h2 h3 N h5 an ag I HV
  obtain⟨ver,blk,root,wr,cid,Q,a4,b3⟩:=m
  have a2:Hid (root.length=32):=jh r.o.root
  have a7:Hid (Q.length=32):=jh r.o.ckey
  have ab:Hid (a4.length=64):=jh r.o.csig
  dsimp only at*
  have kc:=fun (w:World) (C:Array Value) (n c:Nat)=>Lib.run_convert_bytes_const (P:=Tryd.prog) w 24 5 C n c Tryd.underlying24 Tryd.underlying5
  have r1:Row1 (b.alloc (.cells #[.int .u8 80,.int .u8 67,.int .u8 77,.int .u8 49] 5 (4,5))) (.slice (some ⟨b.heap.size,0,none⟩) 4 4) (([80,67,77,49]:List UInt8).map bval):=Row1.made_mark b _ _ _ _ _ _ rfl rfl rfl (by unfold maxLen;omega)
  have e1:Ext b (b.alloc (.cells #[.int .u8 80,.int .u8 67,.int .u8 77,.int .u8 49] 5 (4,5))):=Ext.alloc _ _
  have hs:(b.alloc (.cells #[.int .u8 80,.int .u8 67,.int .u8 77,.int .u8 49] 5 (4,5))).heap.size=b.heap.size+1:=by simp
  have D:=Ext.alloc (b.alloc (.cells #[.int .u8 80,.int .u8 67,.int .u8 77,.int .u8 49] 5 (4,5))) (.cells #[.int .i64 ver,.int .i64 blk] 3)
  have B:Row1 ((b.alloc (.cells #[.int .u8 80,.int .u8 67,.int .u8 77,.int .u8 49] 5 (4,5))).alloc (.cells #[.int .i64 ver,.int .i64 blk] 3)) (.slice (some ⟨b.heap.size+1,0,none⟩) 2 2) (([ver,blk]:List Int).map (.int .i64)):=Row1.made _ #[.int .i64 ver,.int .i64 blk] 3 _ 2 _ hs rfl rfl (by unfold maxLen;omega)
  have O:=jh (rint_any (bl:=[80,67,77,49]) (ns:=[ver,blk]) _ (r1.below D) B (by simp))
  have i:=jh (e1.trans D)
  clear r1 e1 hs D B
  go_wp2_with fail
  refine O.o.mono ?_
  rintro e W ⟨H,rfl,L,R⟩
  have HO:Hid (W.ownsRow b.heap.size 5 1 H 20 (([80,67,77,49]++be8s [ver,blk]).map bval)):=jh (zcn (zce L i.o.size) rfl rfl)
  have i:=jh (i.o.trans R)
  clear L R O p0 p1 p3
  go_upto_region 4 with(fail)
  have p:Ext b W.drew:=(i.o).trans (Ext.drew _)
  refine wp_region_held_drew (S:=fun F=>Ext b F) (by kernel_rfl) p (fun d=>?_)
  have y:World.ownsRow W.drew (b).heap.size 5 1 H 20 (([80,67,77,49]++be8s [ver,blk]).map bval):=zbi HO.o (Ext.drew _)
  have r0:Row1 W.drew H (([80,67,77,49]++be8s [ver,blk]).map bval):=Row1.of_own y
  refine tke 0 H rfl (zba _ (H) (by rfl) rfl rfl) d ?_
  simp only[nm]
  refine tke 1 (.pointer (some ⟨A,2,none⟩)) rfl (zbb (.pointer (some ⟨A,2,none⟩)) (by rfl) (fun w _=>by go_simp)) d ?_
  simp only[nm]
  refine tke 2 (.slice (some ⟨A,2,none⟩) 32 32) rfl (zcd _ _ _ _ (.pointer (some ⟨A,2,none⟩)) (.slice (some ⟨A,2,none⟩) 32 32) none none (by rfl) rfl rfl rfl rfl (fun w=>cut_part Tryd.underlying23 Tryd.sizeOf5 (by omega) _ _ w)) d ?_
  simp only[nm]
  refine tke 4 (.pointer (some ⟨A,34,none⟩)) rfl (zbb (.pointer (some ⟨A,34,none⟩)) (by rfl) (fun w _=>by go_simp)) d ?_
  simp only[nm]
  refine tke 5 (.slice ad wr.length cp) rfl (zbb (.slice ad wr.length cp) (by rfl) (fun w h=>by have hc:=(Below.cell h (q135 b _ ae.o)).trans ae.o;go_simp)) d ?_
  simp only[nm]
  refine rdy 3 rfl fun K g=>?_
  refine zan (by rfl) ?_
  refine zbe _ _ 24 rfl (b).heap.size 5 i0 (.int .u8 0) 1 Tryd.underlying24 a0.o Z.o Y.o U.o rfl (H) 20 _ rfl y rfl ((av.o).below p) (zac _) (by rw[q100,a2.o];unfold maxLen;omega) (by rw[q100,a2.o];omega) p.size ?_
  intro v s aa a3
  have j:Ext b s:=zay p y (q101 _) a3
  have E:World.ownsRow s (b).heap.size 5 1 v 52 ((([80,67,77,49]++be8s [ver,blk])++root).map bval):=zcn aa (by rw[q100,a2.o]) (by simp only[q104])
  have r1:Row1 s v ((([80,67,77,49]++be8s [ver,blk])++root).map bval):=Row1.of_own E
  refine g.o _ _ j (fun d=>?_)
  clear g K
  try simp only[nm]
  refine rdy 6 rfl fun K g=>?_
  refine zan (by rfl) ?_
  refine zbe _ _ 24 rfl (b).heap.size 5 i0 (.int .u8 0) 1 Tryd.underlying24 a0.o Z.o Y.o U.o rfl (v) 52 _ rfl E rfl ((ar.o).below j) (zac _) (by rw[q100,a5.o];unfold maxLen;omega) (by rw[q100,a5.o];omega) j.size ?_
  intro l k a6 a9
  have u:Ext b k:=zay j E (q101 _) a9
  have M:World.ownsRow k (b).heap.size 5 1 l 132 (((([80,67,77,49]++be8s [ver,blk])++root)++wr).map bval):=zcn a6 (by rw[q100,a5.o]) (by simp only[q104])
  have B:Row1 k l (((([80,67,77,49]++be8s [ver,blk])++root)++wr).map bval):=Row1.of_own M
  refine g.o _ _ u (fun d=>?_)
  clear g K
  try simp only[nm]
  refine rdy 7 rfl fun K g=>?_
  go_simp
  refine g.o _ _ u (fun d=>?_)
  clear g K
  try simp only[nm]
  refine dne ?_
  obtain⟨G,T⟩:=jq2 M u
  generalize k=wc at G T⊢
  generalize l=x5 at G⊢
  have X:=jh ((Below.cell T.o (q135 b _ X.o)).trans X.o)
  have p4:=X.o
  have i:=T
  have D:=Ext.alloc wc (.cells #[.int .i64 cid] 3)
  have B:Row1 (wc.alloc (.cells #[.int .i64 cid] 3)) (.slice (some ⟨wc.heap.size,0,none⟩) 1 1) (([cid]:List Int).map (.int .i64)):=Row1.made _ #[.int .i64 cid] 3 _ 1 _ rfl rfl rfl (by unfold maxLen;omega)
  have O:=jh (rint_any (bl:=(([80,67,77,49]++be8s [ver,blk])++root)++wr) (ns:=[cid]) _ ((Row1.of_own G.o).below D) B (by rw[own_lenB G.o];simp))
  have i:=jh (i.o.trans D)
  clear B D
  go_wp2_with fail
  refine O.o.mono ?_
  rintro e wd ⟨J,rfl,L,R⟩
  have HO:Hid (wd.ownsRow b.heap.size 5 1 J 140 ((((([80,67,77,49]++be8s [ver,blk])++root)++wr)++be8s [cid]).map bval)):=jh (zcn (zce L i.o.size) (by rw[own_lenB G.o];rfl) rfl)
  have i:=jh (i.o.trans R)
  clear L R O G T p4
  go_upto_region 6 with(fail)
  have p:Ext b wd.drew:=(i.o).trans (Ext.drew _)
  refine wp_region_held_drew (S:=fun F=>Ext b F) (by kernel_rfl) p (fun d=>?_)
  have y:World.ownsRow wd.drew (b).heap.size 5 1 J 140 ((((([80,67,77,49]++be8s [ver,blk])++root)++wr)++be8s [cid]).map bval):=zbi HO.o (Ext.drew _)
  have r0:Row1 wd.drew J ((((([80,67,77,49]++be8s [ver,blk])++root)++wr)++be8s [cid]).map bval):=Row1.of_own y
  refine tke 0 J rfl (zba _ (J) (by rfl) rfl rfl) d ?_
  simp only[nm]
  refine tke 1 (.pointer (some ⟨A,35,none⟩)) rfl (zbb (.pointer (some ⟨A,35,none⟩)) (by rfl) (fun w _=>by go_simp)) d ?_
  simp only[nm]
  refine tke 2 (.pointer (some ⟨A,36,none⟩)) rfl (zbb (.pointer (some ⟨A,36,none⟩)) (by rfl) (fun w _=>by go_simp)) d ?_
  simp only[nm]
  refine tke 3 (.slice (some ⟨A,36,none⟩) 32 32) rfl (zcd _ _ _ _ (.pointer (some ⟨A,36,none⟩)) (.slice (some ⟨A,36,none⟩) 32 32) none none (by rfl) rfl rfl rfl rfl (fun w=>cut_part Tryd.underlying23 Tryd.sizeOf5 (by omega) _ _ w)) d ?_
  simp only[nm]
  refine tke 5 (.pointer (some ⟨A,35,none⟩)) rfl (zbb (.pointer (some ⟨A,35,none⟩)) (by rfl) (fun w _=>by go_simp)) d ?_
  simp only[nm]
  refine tke 6 (.pointer (some ⟨A,68,none⟩)) rfl (zbb (.pointer (some ⟨A,68,none⟩)) (by rfl) (fun w _=>by go_simp)) d ?_
  simp only[nm]
  refine tke 7 (.slice (some ⟨A,68,none⟩) 64 64) rfl (zcd _ _ _ _ (.pointer (some ⟨A,68,none⟩)) (.slice (some ⟨A,68,none⟩) 64 64) none none (by rfl) rfl rfl rfl rfl (fun w=>cut_part Tryd.underlying26 Tryd.sizeOf5 (by omega) _ _ w)) d ?_
  simp only[nm]
  refine rdy 4 rfl fun K g=>?_
  refine zan (by rfl) ?_
  refine zbe _ _ 24 rfl (b).heap.size 5 i0 (.int .u8 0) 1 Tryd.underlying24 a0.o Z.o Y.o U.o rfl (J) 140 _ rfl y rfl ((ap.o).below p) (zac _) (by rw[q100,a7.o];unfold maxLen;omega) (by rw[q100,a7.o];omega) p.size ?_
  intro v s aa a3
  have j:Ext b s:=zay p y (q101 _) a3
  have E:World.ownsRow s (b).heap.size 5 1 v 172 (((((([80,67,77,49]++be8s [ver,blk])++root)++wr)++be8s [cid])++Q).map bval):=zcn aa (by rw[q100,a7.o]) (by simp only[q104])
  have r1:Row1 s v (((((([80,67,77,49]++be8s [ver,blk])++root)++wr)++be8s [cid])++Q).map bval):=Row1.of_own E
  refine g.o _ _ j (fun d=>?_)
  clear g K
  try simp only[nm]
  refine rdy 8 rfl fun K g=>?_
  refine zan (by rfl) ?_
  refine zbe _ _ 24 rfl (b).heap.size 5 i0 (.int .u8 0) 1 Tryd.underlying24 a0.o Z.o Y.o U.o rfl (v) 172 _ rfl E rfl ((aw.o).below j) (zac _) (by rw[q100,ab.o];unfold maxLen;omega) (by rw[q100,ab.o];omega) j.size ?_
  intro l k a6 a9
  have u:Ext b k:=zay j E (q101 _) a9
  have M:World.ownsRow k (b).heap.size 5 1 l 236 ((((((([80,67,77,49]++be8s [ver,blk])++root)++wr)++be8s [cid])++Q)++a4).map bval):=zcn a6 (by rw[q100,ab.o]) (by simp only[q104])
  have B:Row1 k l ((((((([80,67,77,49]++be8s [ver,blk])++root)++wr)++be8s [cid])++Q)++a4).map bval):=Row1.of_own M
  refine g.o _ _ u (fun d=>?_)
  clear g K
  try simp only[nm]
  refine tke 9 l rfl (yi_assign _ (l) (by rfl) rfl rfl) d ?_
  simp only[nm]
  refine rdy 10 rfl fun K g=>?_
  go_simp
  refine g.o _ _ u (fun d=>?_)
  clear g K
  try simp only[nm]
  refine dne ?_
  obtain⟨a1,al⟩:=jq2 M u
  generalize k=we at a1 al⊢
  generalize l=x7 at a1⊢
  go_wp2_with fail
  refine bodyPost_ret (zec rfl _ _) rfl ?_
  exact⟨_,by rw[f.o.1];rfl,zcn (zce a1.o q.o.size) (by rw[f.o.2,aq.o]) (by rw[f.o.2,body_said]),q.o.trans al.o⟩
 have f:=jh (I.o (fun h=>N h.2.2.2.1))
 have ay:((m.wr.length:Int)==80)=false:=by simp;omega
 go_wp2_with fail
 refine bodyPost_ret (zec rfl _ _) rfl ?_
 exact⟨_,by rw[f.o.1];rfl,by rw[f.o.2];exact World.ownsRow_nil _ _ _ _,q.o⟩
section
structure Tld where
 p:Value→World→Prop
 q:Value→World→Prop
 k:Option Nat
 hp:∀v w w',p v w→(∀x xs,Row1 w x xs→Row1 w' x xs)→p v w'
 hq:∀v w w',q v w→Ext w w'→q v w'
def Tld.is(c:Value):Tld:=⟨fun v _=>v=c,fun _ _=>True,none,fun _ _ _ h _=>h,fun _ _ _ h _=>h⟩
def Tld.row(l:List Value):Tld:=⟨fun v w=>Row1 w v l,fun _ _=>True,none,fun _ _ _ h g=>g _ _ h,fun _ _ _ h _=>h⟩
def Tld.any:Tld:=⟨fun _ _=>True,fun _ _=>True,none,fun _ _ _ h _=>h,fun _ _ _ h _=>h⟩
def Tld.own(base:Nat)(e:TypeId)(n:Nat)(l:List Value)(k:Nat):Tld:=⟨fun v w=>Row1 w v l,fun v w=>w.ownsRow base e 1 v n l,some k,fun _ _ _ h g=>g _ _ h,fun _ _ _ h g=>zbi h g⟩
def Tld.at(s:Tld)(L:Nat→Bool)(v:Value)(w:World):Prop:=s.p v w∧∀k,s.k=some k→L k=false→s.q v w
abbrev RelL:=List (Nat×Option Nat×Tld)
def RelL.of(L:RelL)(i:Nat):Tld:=match L.find? (fun x=>x.1==i)with
 |some x=>x.2.2
 |none=>Tld.any
def putsR(u:Nat→Value):RelL→Act→Act
 |[],a=>a
 |x::r,a=>putsR u r (a.put x.2.1 (u x.1))
def updR(u:Nat→Value)(i:Nat)(v:Value):Nat→Value:=fun j=>if j=i then v else u j
theorem putsR_congr {u b:Nat→Value}:∀(L:RelL) (a:Act),(∀x∈L,u x.1=b x.1)→putsR u L a=putsR b L a
 |[],_,_=>rfl
 |x::r,a,h=>by
  unfold putsR
  rw[h x (List.mem_cons_self ..)]
  exact putsR_congr r _ (fun y c=>h y (q136 _ c))
theorem put_again(a:Act)(d:Option Nat)(x v:Value):(a.put d x).put d v=a.put d v:=by
 cases d with
 |none=>rfl
 |some d=>
  unfold Act.put
  simp only
  congr 1
  rcases a.tmps with⟨l⟩
  simp only[List.setIfInBounds_toArray,List.set_set]
theorem putsR_comm {u:Nat→Value} {d:Option Nat}(v:Value):∀(L:RelL) (a:Act),(∀x∈L,d=none∨x.2.1≠d)→(putsR u L a).put d v=putsR u L (a.put d v)
 |[],_,_=>rfl
 |x::r,a,h=>by
  unfold putsR
  rw[putsR_comm v r _ (fun y g=>h y (q136 _ g))]
  congr 1
  rcases h x (List.mem_cons_self ..)with rfl|f
  ·rfl
  exact Act.put_comm a (u x.1) v (fun e b c=>f (by rw[b,c]))
def RelL.apart:RelL→Bool
 |[]=>true
 |x::r=>r.all (fun y=>y.1 !=x.1 && (x.2.1==none||y.2.1 !=x.2.1)) && RelL.apart r
theorem putsR_put {u:Nat→Value} {i:Nat} {d:Option Nat} {s:Tld}(v:Value):∀(L:RelL) (a:Act),RelL.apart L=true→(i,d,s)∈L→(putsR u L a).put d v=putsR (updR u i v) L a
 |[],_,_,h=>by cases h
 |x::r,a,hA,h=>by
  unfold RelL.apart at hA
  rw[Bool.and_eq_true]at hA
  obtain⟨h1,h2⟩:=hA
  have h1:∀y∈r,(y.1≠x.1)∧(x.2.1=none∨y.2.1≠x.2.1):=fun y b=>by simpa using List.all_eq_true.1 h1 y b
  unfold putsR
  by_cases f:x=(i,d,s)
  ·subst f
   rw[putsR_comm v r _ (fun y b=>(h1 y b).2),put_again]
   rw[show updR u i v i=v from if_pos rfl]
   exact putsR_congr r _ (fun y b=>by
    unfold updR
    rw[if_neg (h1 y b).1])
  have c:(i,d,s)∈r:=by
   rcases List.mem_cons.1 h with e|e
   ·exact absurd e.symm f
   exact e
  rw[putsR_put v r _ h2 c]
  have:x.1≠i:=fun e=>(h1 _ c).1 e.symm
  rw[show updR u i v x.1=u x.1 from if_neg this]
theorem put_self(a:Act)(d:Option Nat):a.put d (match d with|some d=>a.tmps.getD d undef|none=>undef)=a:=by
 cases d with
 |none=>rfl
 |some d=>
  unfold Act.put
  simp only
  obtain⟨⟨l⟩,b⟩:=a
  congr 1
  simp only[List.setIfInBounds_toArray,Array.getD_eq_getD_getElem?,List.getElem?_toArray]
  congr 1
  by_cases h:d<l.length
  ·rw[List.getElem?_eq_getElem h]
   simp
  rw[List.set_eq_of_length_le (by omega)]
theorem putsR_self(a:Act):∀(L:RelL),(∀u:Nat→Value,(∀x∈L,u x.1=(match x.2.1 with|some d=>a.tmps.getD d undef|none=>undef))→putsR u L a=a)
 |[],_,_=>rfl
 |x::r,u,h=>by
  unfold putsR
  rw[h x (List.mem_cons_self ..),put_self]
  exact putsR_self a r u (fun y b=>h y (q136 _ b))
section
variable {P:Program} {md:Region.Mode} {ops:Array Oper} {Q:Exit→Act→World→Prop}
def relEdge(md:Region.Mode)(ops:Array Oper)(i j:Nat):Bool:=((ops[i]?).map fun o=>o.after.any fun e=>Region.binds md e && e.on==j).getD false
inductive RelOb (P:Program) (md:Region.Mode) (ops:Array Oper) (Q:Exit→Act→World→Prop) (B:World) (L0:RelL) (u:Nat→Value) (a:Act):RelL→Prop
 |nil:RelOb P md ops Q B L0 u a []
 |cons {i:Nat} {d:Option Nat} {s:Tld} {r:RelL} {oi:Oper} (ho:ops[i]? =some oi) (hd:oi.dst=d)
   (h:∀(w:World) (K:Act→World→Prop),Ext B w→(∀j,relEdge md ops i j=true→(L0.of j).p (u j) w∧((L0.of j).k=some i→(L0.of j).q (u j) w))→
    Shut (∀v w',((Ext w w')∨(Ext B w'∧(∀x xs,Row1 w x xs→Row1 w' x xs)∧(L0.all fun y=>y.2.2.k==none||y.2.2.k==some i)=true))→s.p v w'∧(s.k.isSome=true→s.q v w')→K (a.put d v) w')→
    if Region.wanted oi (yielded ops a.tmps)=true then oi.wp P a w K Q else K (a.put d undef) w)
   (t:RelOb P md ops Q B L0 u a r):RelOb P md ops Q B L0 u a ((i,d,s)::r)
theorem RelOb.get {B:World} {c:RelL} {u:Nat→Value} {a:Act} {i:Nat} {d:Option Nat} {s:Tld}:∀{L:RelL},RelOb P md ops Q B c u a L→(i,d,s)∈L→∃f,ops[i]? =some f∧f.dst=d∧∀(w:World) (K:Act→World→Prop),Ext B w→(∀j,relEdge md ops i j=true→(c.of j).p (u j) w∧((c.of j).k=some i→(c.of j).q (u j) w))→
    Shut (∀v b,((Ext w b)∨(Ext B b∧(∀x g,Row1 w x g→Row1 b x g)∧(c.all fun y=>y.2.2.k==none||y.2.2.k==some i)=true))→s.p v b∧(s.k.isSome=true→s.q v b)→K (a.put d v) b)→
    if Region.wanted f (yielded ops a.tmps)=true then f.wp P a w K Q else K (a.put d undef) w
 |_,.nil,h=>by cases h
 |_,.cons ho hd hh t,h=>by
  rcases List.mem_cons.1 h with e|e
  ·cases e
   exact⟨_,ho,hd,hh⟩
  exact t.get e
theorem RelL.of_mem:∀{L:RelL} {i:Nat} {d:Option Nat} {s:Tld},RelL.apart L=true→(i,d,s)∈L→L.of i=s
 |x::r,i,d,s,hA,h=>by
  unfold RelL.apart at hA
  rw[Bool.and_eq_true]at hA
  obtain⟨h1,h2⟩:=hA
  have h1:∀y∈r,(y.1≠x.1):=fun y c=>by
   have:=List.all_eq_true.1 h1 y c
   simp at this
   exact this.1
  unfold RelL.of
  rcases List.mem_cons.1 h with e|e
  ·subst e
   simp
  have a:=h1 _ e
  rw[List.find?_cons_of_neg (by simpa using fun b=>a b.symm)]
  exact RelL.of_mem h2 e
theorem RelL.uniq {L:RelL}(a:RelL.apart L=true) {i:Nat} {d c:Option Nat} {s b:Tld}(h:(i,d,s)∈L)(e:(i,c,b)∈L):s=b:=(RelL.of_mem a h).symm.trans (RelL.of_mem a e)
theorem RelL.of_none {L:RelL} {j:Nat}(h:∀d s,(j,d,s) ∉ L):L.of j=Tld.any:=by
 unfold RelL.of
 have:L.find? (fun x=>x.1==j)=none:=by
  rw[List.find?_eq_none]
  rintro⟨i,d,s⟩ b a
  have e:i=j:=by simpa using a
  subst e
  exact h d s b
 rw[this]
theorem getD_in {l:Array Bool} {i:Nat}(h:i<l.size):l.getD i true=l.getD i false:=by
 simp[Array.getD,h]
theorem getD_set {l:Array Bool} {i:Nat}(h:i<l.size)(k:Nat)(b:Bool):(l.setIfInBounds i true).getD k b=if k=i then true else l.getD k b:=by
 simp only[Array.getD_eq_getD_getElem?,Array.getElem?_setIfInBounds]
 by_cases e:i=k
 ·subst e
  simp[h]
 rw[if_neg e,if_neg (fun x=>e x.symm)]
theorem count_less {l:Array Bool} {n i:Nat}(g:l.size=n)(h:i<n)(b:l.getD i true=false) {f:Nat}(c:((List.range n).filter (fun j=>!l.getD j true)).length=f+1):((List.range n).filter (fun j=>!(l.setIfInBounds i true).getD j true)).length=f:=by
 have e:(List.range n).filter (fun j=>!(l.setIfInBounds i true).getD j true)=((List.range n).filter (fun j=>!l.getD j true)).erase i:=by
  rw[List.Nodup.erase_eq_filter (List.Nodup.sublist List.filter_sublist List.nodup_range),List.filter_filter]
  apply List.filter_congr
  intro j d
  rw[getD_set (by omega)]
  by_cases a:j=i
  ·subst a
   simp
  simp[a]
 rw[e,List.length_erase_of_mem (by rw[List.mem_filter];exact⟨List.mem_range.2 h,by rw[b];rfl⟩),c]
 rfl
theorem rel_go {B:World} {L:RelL} {a:Act}(M:RelL.apart L=true)
  (a2:∀x∈L,∃o,ops[x.1]? =some o∧∀e∈o.after,Region.binds md e=true→e.on<x.1)
  (ob:∀u,RelOb P md ops Q B L u (putsR u L a) L)
  (a3:∀u w,Ext B w→(∀x∈L,x.2.2.p (u x.1) w∧∀k,x.2.2.k=some k→ops.size≤k→x.2.2.q (u x.1) w)→Q .normal (putsR u L a) w):
  ∀(fuel:Nat) (b:Array Bool) (u:Nat→Value) (w:World),b.size=ops.size→((List.range ops.size).filter (fun i=>!b.getD i true)).length=fuel→
   (∀i,i<ops.size→b.getD i true=false→∃d s,(i,d,s)∈L)→(∀x∈L,x.1<ops.size)→Ext B w→(∀x∈L,b.getD x.1 false=true→x.2.2.at (fun k=>b.getD k false) (u x.1) w)→
   wpAnyH P md ops Q (fun H=>Ext B H) fuel b (putsR u L a) w:=by
 -- where none is ready V have come up
 have V:∀b:Array Bool,b.size=ops.size→(∀i,i<ops.size→b.getD i true=false→∃d s,(i,d,s)∈L)→Region.ready md ops b=[]→∀i,i<ops.size→b.getD i true=true:=by
  intro b m r t i
  induction i using Nat.strongRecOn with
  |ind i J=>
   intro c
   cases I:b.getD i true with
   |true=>rfl
   |false=>
    obtain⟨d,s,n⟩:=r i c I
    obtain⟨o,A,S⟩:=a2 _ n
    have:i∈Region.ready md ops b:=by
     unfold Region.ready
     rw[List.mem_filter]
     refine⟨List.mem_range.2 c,?_⟩
     rw[I,show ops[i]? =some o from A]
     simp only[Bool.not_false,Bool.true_and,Option.map_some,Option.getD_some]
     rw[Array.all_eq_true_iff_forall_mem]
     intro e a7
     cases hbd:Region.binds md e with
     |false=>rfl
     |true=>
      have l:=S e a7 hbd
      have h2:=J e.on l (Nat.lt_trans l c)
      rw[getD_in (by rw[m];exact Nat.lt_trans l c)]at h2
      rw[h2]
      rfl
    rw[t]at this
    cases this
 have done:∀(b:Array Bool) (u:Nat→Value) (w:World),b.size=ops.size→(∀i,i<ops.size→b.getD i true=false→∃d s,(i,d,s)∈L)→(∀x∈L,x.1<ops.size)→Ext B w→(∀x∈L,b.getD x.1 false=true→x.2.2.at (fun k=>b.getD k false) (u x.1) w)→Region.ready md ops b=[]→Q .normal (putsR u L a) w:=by
  intro b u w m r l y z t
  refine a3 u w y (fun x n=>?_)
  have h1:=V b m r t x.1 (l x n)
  rw[getD_in (by rw[m];exact l x n)]at h1
  obtain⟨h2,h3⟩:=z x n h1
  exact⟨h2,fun k f a9=>h3 k f (by simp[Array.getD,show ¬k<b.size by omega])⟩
 intro fuel
 induction fuel with
 |zero=>
  intro b u w m N r l y z
  have t:Region.ready md ops b=[]:=by
   rw[List.eq_nil_iff_forall_not_mem]
   intro i c
   unfold Region.ready at c
   rw[List.mem_filter,Bool.and_eq_true]at c
   have:i∈(List.range ops.size).filter (fun i=>!b.getD i true):=List.mem_filter.2 ⟨c.1,c.2.1⟩
   rw[q131 N]at this
   cases this
  exact⟨t,done b u w m r l y z t⟩
 |succ fuel J=>
  intro b u w m N r l y z
  refine⟨done b u w m r l y z,fun i c=>?_⟩
  have aa:=c
  unfold Region.ready at c
  rw[List.mem_filter,Bool.and_eq_true]at c
  obtain⟨a4,C,G⟩:=c
  have T:i<ops.size:=List.mem_range.1 a4
  have C:b.getD i true=false:=by simpa using C
  have a8:b.getD i false=false:=by rw[←getD_in (by omega)];exact C
  obtain⟨d,s,n⟩:=r i T C
  obtain⟨oi,A,hd,hh⟩:=(ob u).get n
  subst hd
  rw[A]at G
  simp only[Option.map_some,Option.getD_some]at G
  rw[Array.all_eq_true_iff_forall_mem]at G
  refine wpOp_step A (fun K' a0=>?_)
  refine hh w K' y (fun j D=>?_) (fun v H O Y=>?_)
  · -- what it waits for is told
   have a5:b.getD j false=true:=by
    unfold relEdge at D
    rw[A]at D
    simp only[Option.map_some,Option.getD_some,Array.any_eq_true',Bool.and_eq_true,beq_iff_eq]at D
    obtain⟨e,S,I,rfl⟩:=D
    have:=G e S
    rw[I]at this
    simpa using this
   by_cases X:∃d s,(j,d,s)∈L
   ·obtain⟨d2,s2,U⟩:=X
    rw[RelL.of_mem M U]
    obtain⟨h1,h2⟩:=z _ U a5
    exact⟨h1,fun f=>h2 i f a8⟩
   rw[RelL.of_none (fun d s h=>X ⟨d,s,h⟩)]
   exact⟨trivial,fun f=>by cases f⟩
  have Z:Ext B H:=by
   rcases O with h|h
   ·exact y.trans h
   exact h.1
  have a6:∀x F,Row1 w x F→Row1 H x F:=by
   rcases O with h|h
   ·exact fun x F t=>t.below h
   exact h.2.1
  refine a0 _ _ ⟨Z,?_⟩
  rw[putsR_put v L a M n]
  refine J _ _ _ (by rw[Array.size_setIfInBounds];exact m) (count_less m T C N) ?_ l Z ?_
  ·intro k f g
   rw[getD_set (by omega)]at g
   split at g
   ·cases g
   exact r k f g
  intro x R K
  rw[getD_set (by omega)]at K
  by_cases E:x.1=i
  ·obtain⟨W,xd,F⟩:=x
   simp only at E
   subst E
   obtain rfl:=RelL.uniq M n R
   rw[show updR u W v W=v from if_pos rfl]
   exact⟨Y.1,fun k f _=>Y.2 (by rw[f];rfl)⟩
  rw[if_neg E]at K
  rw[show updR u i v x.1=u x.1 from if_neg E]
  obtain⟨h1,h2⟩:=z x R K
  refine⟨x.2.2.hp _ _ _ h1 a6,fun k f g=>?_⟩
  have g:(b.setIfInBounds i true).getD k false=false:=g
  rw[getD_set (by omega)]at g
  split at g
  ·cases g
  rename_i a1
  have hq:=h2 k f g
  rcases O with h|h
  ·exact x.2.2.hq _ _ _ hq h
  have:=List.all_eq_true.1 h.2.2 x R
  rw[f]at this
  simp at this
  exact absurd this a1
theorem wpAnyH_rel {B:World} {fuel:Nat} {f:Array Bool} {a:Act} {w:World}(L:RelL)(l:Ext B w)
  (A:∀u,RelOb P md ops Q B L u (putsR u L a) L)
  (D:∀u w,Ext B w→(∀j,(L.of j).p (u j) w∧∀k,(L.of j).k=some k→ops.size≤k→(L.of j).q (u j) w)→Q .normal (putsR u L a) w)
  (g:((List.range ops.size).filter (fun i=>!f.getD i true)==L.map (·.1))=true:=by kernel_rfl) (G:f.size=ops.size:=by kernel_rfl) (M:L.length=fuel:=by rfl) (c:RelL.apart L=true:=by kernel_rfl)
  (y:((L.map (·.1)).all fun i=>((ops[i]?).map fun o=>o.after.all fun e=>!Region.binds md e||decide (e.on<i)).getD false)=true:=by kernel_rfl):
  wpAnyH P md ops Q (fun N=>Ext B N) fuel f a w:=by
 have g:(List.range ops.size).filter (fun i=>!f.getD i true)=L.map (·.1):=by simpa using g
 have m:∀i,i∈L.map (·.1)↔i<ops.size∧f.getD i true=false:=fun i=>by
  rw[←g,List.mem_filter,List.mem_range]
  simp
 have S:∀i,i∈L.map (·.1)→∃d s,(i,d,s)∈L:=fun i h=>by
  obtain⟨⟨T,d,s⟩,b,rfl⟩:=List.mem_map.1 h
  exact⟨d,s,b⟩
 have H:=putsR_self a L (fun i=>match L.find? (fun x=>x.1==i)with|some x=>(match x.2.1 with|some d=>a.tmps.getD d undef|none=>undef)|none=>undef) (fun x b=>by
  obtain⟨i,d,s⟩:=x
  have:L.find? (fun x=>x.1==i)=some (i,d,s):=by
   have h2:∀{L:RelL},RelL.apart L=true→(i,d,s)∈L→L.find? (fun x=>x.1==i)=some (i,d,s):=by
    intro L
    induction L with
    |nil=>intro _ h;cases h
    |cons x r z=>
     intro c h
     unfold RelL.apart at c
     rw[Bool.and_eq_true]at c
     rcases List.mem_cons.1 h with e|e
     ·subst e
      simp
     have C:i≠x.1:=by
      have:=List.all_eq_true.1 c.1 _ e
      simp at this
      exact this.1
     rw[List.find?_cons_of_neg (by simpa using fun R=>C R.symm)]
     exact z c.2 e
   exact h2 c b
  simp only[this])
 rw[←H]
 have v:∀u w,Ext B w→(∀x∈L,x.2.2.p (u x.1) w∧∀k,x.2.2.k=some k→ops.size≤k→x.2.2.q (u x.1) w)→Q .normal (putsR u L a) w:=fun u w l K=>D u w l (fun j=>by
  by_cases n:∃d s,(j,d,s)∈L
  ·obtain⟨d,s,b⟩:=n
   rw[RelL.of_mem c b]
   exact K _ b
  rw[RelL.of_none (fun d s h=>n ⟨d,s,h⟩)]
  exact⟨trivial,fun k I=>by cases I⟩)
 refine rel_go c (fun x b=>?_) A v fuel f _ w G (by rw[g,q100];exact M) (fun i F E=>S i ((m i).2 ⟨F,E⟩)) (fun x b=>((m x.1).1 (List.mem_map.2 ⟨x,b,rfl⟩)).1) l (fun x b t=>?_)
 ·have h:=List.all_eq_true.1 y x.1 (List.mem_map.2 ⟨x,b,rfl⟩)
  cases ho:ops[x.1]? with
  |none=>rw[ho]at h;cases h
  |some o=>
   rw[ho]at h
   simp only[Option.map_some,Option.getD_some]at h
   rw[Array.all_eq_true_iff_forall_mem]at h
   refine⟨o,rfl,fun e J O=>?_⟩
   have:=h e J
   rw[O]at this
   simpa using this
 have h1:=(m x.1).1 (List.mem_map.2 ⟨x,b,rfl⟩)
 rw[getD_in (by omega)]at h1
 rw[h1.2]at t
 cases t
end
end
section
section
variable {P:Program} {ops:Array Oper} {Q:Exit→Act→World→Prop} {o:Oper} {a:Act} {w:World} {K:Act→World→Prop}
theorem ob_assign {d:Option Nat}(x:Operand)(v:Value)(e:K (a.put d v) w)(b:Region.wanted o (yielded ops a.tmps)=true)(f:o.dst=d)(g:o.op=.assign x)(c:a.eval x=v):
  if Region.wanted o (yielded ops a.tmps)=true then o.wp P a w K Q else K (a.put d undef) w:=by
 rw[if_pos b]
 subst f c
 unfold Oper.wp execOp
 simpa[g,Oper.upon]using e
end
end
section
section
variable {P:Program} {md:Region.Mode} {ops:Array Oper} {Q:Exit→Act→World→Prop} {S:World→Prop}
def Fl(P:Program)(md:Region.Mode)(ops:Array Oper)(Q:Exit→Act→World→Prop)(S:World→Prop)(f d:Nat)(zs:List Value)(T:TypeId)(B:Nat)(fuel:Nat)(listed:Array Bool)(a:Act)(w:World):Prop:=
 ∀w',Ext w w'→S w'→wpAnyH P md ops Q S (fuel+1) listed a w'∧
  ∀g,B≤g→Blk w' g zs T→wpAnyH P md ops Q S fuel (listed.setIfInBounds f true) (a.put (some d) (.pointer (some ⟨g,0,none⟩))) w'
theorem set_swap(l:Array Bool) {i j:Nat}(h:i≠j):(l.setIfInBounds i true).setIfInBounds j true=(l.setIfInBounds j true).setIfInBounds i true:=by
 rcases l with⟨l⟩
 simp only[List.setIfInBounds_toArray]
 rw[List.set_comm _ _ h]
theorem put_swap(a:Act) {d:Nat} {e:Option Nat}(h:e≠some d)(u v:Value):(a.put (some d) u).put e v=(a.put e v).put (some d) u:=by
 cases e with
 |none=>rfl
 |some e=>
  have c:e≠d:=fun b=>h (by rw[b])
  unfold Act.put
  simp only
  congr 1
  rcases a.tmps with⟨l⟩
  simp only[List.setIfInBounds_toArray]
  rw[List.set_comm _ _ (Ne.symm c)]
theorem Fl.go {f d:Nat} {zs:List Value} {T:TypeId} {B fuel:Nat} {b:Array Bool} {a:Act} {w:World}(h:Fl P md ops Q S f d zs T B fuel b a w)(c:S w):wpAnyH P md ops Q S (fuel+1) b a w:=(h w (Ext.refl w) c).1
theorem Fl.take {f d:Nat} {zs:List Value} {T:TypeId} {B fuel:Nat} {b:Array Bool} {a:Act} {w:World}(i:Nat)(v:Value) {e:Oper}(n:ops[i]? =some e)(s:∀u,YieldsIf P ops S e v (a.put (some d) u))
  (k:Fl P md ops Q S f d zs T B fuel (b.setIfInBounds i true) (a.put e.dst v) w)
  {q:Value} (z:a.put (some d) q=a:=by rfl) (y:e.dst≠some d:=by decide) (x:i≠f:=by decide) (p:Region.noSelect ops=true:=by kernel_rfl)
  (A:Region.free md ops b i=true:=by kernel_rfl) (E:Region.free md ops (b.setIfInBounds f true) i=true:=by kernel_rfl)
  (C:(Region.ready md ops b).contains i=true:=by kernel_rfl) (t:(Region.ready md ops (b.setIfInBounds f true)).contains i=true:=by kernel_rfl)
  (m:∀(c:List PanicEntry) (a:Act) (w:World),Q (.panic c) (a.put e.dst v) w→Q (.panic c) a w:=by exact fun _ _ _ h=>h):Fl P md ops Q S f d zs T B (fuel+1) b a w:=fun r l j=>by
 refine⟨wpAnyH_take n p A C m (by have:=s q;rwa [z]at this) j (k r l j).1,fun g D F=>?_⟩
 refine wpAnyH_take n p E t m (s _) j ?_
 rw[put_swap a y,set_swap b (Ne.symm x)]
 exact(k r l j).2 g D F
theorem Fl.step {f d:Nat} {zs:List Value} {T:TypeId} {B fuel:Nat} {m:Array Bool} {a:Act} {w:World}(c:Nat) {n of:Oper}(y:ops[c]? =some n)(X:ops[f]? =some of)(L:of.op=.alloc T)(G:of.dst=some d)(M:of.guard=none)
  (K:∀w,(zeroValue T).run P w=.ok (.agg zs.toArray) w) (E:∀w b,S w→Ext w b→S b) (J:∀w,S w→B≤w.heap.size)
  (h:∀(b:World) (u:Value) (l:Act→World→Prop),Ext w b→S b→Shut (∀v e,Ext b e→S e→Fl P md ops Q S f d zs T B fuel (m.setIfInBounds c true) (a.put n.dst v) e→l ((a.put (some d) u).put n.dst v) e)→
   if Region.wanted n (yielded ops (a.put (some d) u).tmps)=true then n.wp P (a.put (some d) u) b l Q else l ((a.put (some d) u).put n.dst undef) b)
  (O:((Region.ready md ops m).all fun j=>j==c||j==f)=true:=by kernel_rfl) (x:(Region.ready md ops m).isEmpty=false:=by kernel_rfl) (H:Region.ready md ops (m.setIfInBounds f true)=[c]:=by kernel_rfl)
  {D:Value} (z:a.put (some d) D=a:=by rfl) (I:n.dst≠some d:=by decide) (F:c≠f:=by decide):Fl P md ops Q S f d zs T B (fuel+1) m a w:=by
 have C:∀b,Ext w b→S b→∀g,B≤g→Blk b g zs T→wpAnyH P md ops Q S (fuel+1) (m.setIfInBounds f true) (a.put (some d) (.pointer (some ⟨g,0,none⟩))) b:=fun b q p g R V=>by
  refine wpAnyH_ready (rs:=[c]) H (by simp) (AllReadyH.cons y (fun l s=>?_) AllReadyH.nil)
  refine h b _ l q p (fun v e r k t=>?_)
  refine s.o _ _ k (fun _=>?_)
  rw[put_swap a I,set_swap m (Ne.symm F)]
  exact(t e (Ext.refl _) k).2 g R (zal V r)
 refine fun b q p=>⟨?_,C b q p⟩
 refine wpAnyH_all rfl (by intro h;rw[h]at x;cases x) (fun i N=>?_)
 have U:i=c∨i=f:=by simpa using List.all_eq_true.1 O i N
 rcases U with rfl|rfl
 ·refine wpOp_step y (fun l s=>?_)
  have A:=h b D l q p (fun v e r k t=>by
   rw[z]
   exact s _ _ ⟨k,(t e (Ext.refl _) k).1⟩)
  rw[z]at A
  exact A
 refine wpOp_step X (fun l s=>?_)
 rw[if_pos (by unfold Region.wanted;rw[M])]
 refine wp_alloc_d (some d) T zs G L K ?_
 have r:Ext b (b.alloc (.cells zs.toArray T)):=Ext.alloc _ _
 have k:=E _ _ p r
 exact s _ _ ⟨k,C _ (q.trans r) k _ (J _ p) (Blk.made _ _ _)⟩
theorem Fl.last {f d:Nat} {zs:List Value} {T:TypeId} {B fuel:Nat} {e:Array Bool} {a:Act} {w:World} {of:Oper}(t:ops[f]? =some of)(m:of.op=.alloc T)(q:of.dst=some d)(n:of.guard=none)
  (l:∀w,(zeroValue T).run P w=.ok (.agg zs.toArray) w) (u:∀w b,S w→Ext w b→S b) (v:∀w,S w→B≤w.heap.size)
  (h:∀(b:World) (g:Nat),Ext w b→S b→B≤g→Blk b g zs T→wpAnyH P md ops Q S fuel (e.setIfInBounds f true) (a.put (some d) (.pointer (some ⟨g,0,none⟩))) b)
  (x:Region.ready md ops e=[f]:=by kernel_rfl):Fl P md ops Q S f d zs T B fuel e a w:=fun b j c=>by
 refine⟨?_,fun g p s=>h b g j c p s⟩
 refine wpAnyH_ready (rs:=[f]) x (by simp) (AllReadyH.cons t (fun y r=>?_) AllReadyH.nil)
 rw[if_pos (by unfold Region.wanted;rw[n])]
 refine wp_alloc_d (some d) T zs q m l ?_
 have i:Ext b (b.alloc (.cells zs.toArray T)):=Ext.alloc _ _
 have k:=u _ _ c i
 exact r.o _ _ k (fun _=>h _ _ (j.trans i) k (v _ c) (Blk.made _ _ _))
end
end
end Go.Proofs.YtgnfdonbholcdaaDoor


