/- Lemmas. -/
import Derived.Test.YtgnfdonbholcdaaGreatDoorQz05
namespace Go.Proofs.YtgnfdonbholcdaaGreatDoor
set_option linter.unusedVariables false
set_option maxRecDepth 100000
set_option maxHeartbeats 32000000
set_option linter.unusedSimpArgs false
open Go.RowKit
theorem rsmall_any(n:Int)(w:World):Calls Tryz.prog 29 #[.int .i64 n] w fun e b=>e=.returned (.bool (smallB n))∧w=b:=by
 by_cases h1:0≤n
 ·by_cases h2:n≤2147483647
  ·have a:=jh (smallB_of h1 h2)
   go_enter Tryz.func29,Tryz.ntmps29
   go_wp2_with fail
   go_ret
   exact⟨by rw[a.o];rfl,rfl⟩
  have a:=jh (smallB_not (n:=n) (fun h=>h2 h.2))
  go_enter Tryz.func29,Tryz.ntmps29
  go_wp2_with fail
  go_ret
  exact⟨by rw[a.o];rfl,rfl⟩
 have a:=jh (smallB_not (n:=n) (fun h=>h1 h.1))
 go_enter Tryz.func29,Tryz.ntmps29
 go_wp2_with fail
 go_ret
 exact⟨by rw[a.o];rfl,rfl⟩
theorem rcertText_any(id:Int)(key:List UInt8)(w:World)(hk:key.length=32):Calls Tryz.prog 89 #[.int .i64 id,.agg (key.map bval).toArray] w fun e X=>∃x,e=.returned x∧Row1 X x ((certT id key).map bval)∧Below w.heap.size w X:=by
 obtain⟨V,hi,a9,ab,ac⟩:=info_parts Tryz.info5
 obtain⟨ij,ae,aa,ad⟩:=info_two (P:=Tryz.prog) (t:=3) (z:=.int .i64 0) (n:=1) (by kernel_rfl)
 obtain⟨R,M,D,a2,a7,a8⟩:=jq6 hi a9 ab ac ae aa
 have B:=jh ad
 clear hi a9 ab ac ae aa ad
 obtain⟨C,aj,Z,a5⟩:=jq4 hk (zaf hk) (Blk.made w (key.map bval) 23) (Ext.alloc w (.cells (key.map bval).toArray 23))
 clear hk
 go_enter Tryz.func89,Tryz.ntmps89
 go_upto_region 1 with(fail)
 change Code.wp _ _ _ _ (w.alloc (.cells (key.map bval).toArray 23))
 generalize w.alloc (.cells (key.map bval).toArray 23)=b at*
 obtain⟨A,hA⟩:=nxq w.heap.size
 rw[←hA]at Z⊢
 clear hA
 have Y:Ext b b.drew:=Ext.drew _
 refine wp_region_held_drew (S:=fun X=>Ext b X) (by kernel_rfl) Y (fun d=>?_)
 refine tke 2 (.int .i64 id) rfl (zbe _ (.int .i64 id) (by rfl) rfl rfl) d ?_
 simp only[nm]
 refine tke 5 (.slice (some ⟨A,0,none⟩) 32 32) rfl (zbp _ _ _ _ (.pointer (some ⟨A,0,none⟩)) (.slice (some ⟨A,0,none⟩) 32 32) none none (by rfl) rfl rfl rfl rfl (fun w=>zdf q102 q111 (by omega) _ w)) d ?_
 simp only[nm]
 refine wpAnyH_ready (rs:=[0,3]) (by kernel_rfl) (by simp) (AllReadyH.cons rfl (fun K a=>?_) (AllReadyH.cons rfl (fun K a=>?_) AllReadyH.nil))
 ·refine zan (by rfl) ?_
  refine zbl (some 5) _ _ _ _ rfl rfl #[.int .u8 80,.int .u8 67,.int .u8 67,.int .u8 84] V (.int .u8 0) q104 R.o M.o (by rw[D.o];decide) (by rw[D.o];decide) (by rw[D.o];kernel_rfl) ?_
  obtain⟨i,v⟩:=nxq (World.alloc b.drew (.cells #[.int .u8 80,.int .u8 67,.int .u8 67,.int .u8 84] 5))
  rw[←v]
  have b1:Ext b.drew i:=by rw[v];exact Ext.alloc _ _
  obtain⟨g1,H⟩:=nxq ((b.drew).heap.size)
  rw[←H]
  have c:Row1 i (.slice (some ⟨g1,0,none⟩) 4 4) (([80,67,67,84]:List UInt8).map bval):=by rw[v,H];exact Row1.made _ _ _ _ _ _ rfl rfl rfl (by unfold maxLen;omega)
  have o1:World.ownsRow i (b).heap.size 5 1 (.slice (some ⟨g1,0,none⟩) 4 4) 4 (([80,67,67,84]:List UInt8).map bval):=by rw[v,H];exact own_made _ _ _ _ _ _ rfl rfl (by unfold maxLen;omega) Y.size
  clear v H
  have J:Ext b i:=Y.trans b1
  refine a.o _ _ J (fun d=>?_)
  clear a K
  try simp only[nm]
  refine wpAnyH_ready (rs:=[1,3]) (by kernel_rfl) (by simp) (AllReadyH.cons rfl (fun K a=>?_) (AllReadyH.cons rfl (fun K a=>?_) AllReadyH.nil))
  ·obtain⟨j,af,ah,ag,ai⟩:=zds (P:=Tryz.prog) (t:=24) q104 q113 o1
   refine zan (by rfl) ?_
   refine wp_conv_d (some 6) _ _ _ _ _ _ rfl rfl rfl af ?_
   have c:=ai _ _ c
   have I:Ext b j:=zab J ah ag
   refine a.o _ _ I (fun d=>?_)
   clear a K
   try simp only[nm]
   refine rdy 3 rfl fun K a=>?_
   refine zan (by rfl) ?_
   refine zbl (some 8) _ _ _ _ rfl rfl #[.int .i64 id] ij (.int .i64 0) Tryz.underlying63 a7.o a8.o (by rw[B.o];decide) (by rw[B.o];decide) (by rw[B.o];kernel_rfl) ?_
   obtain⟨y,a0⟩:=nxq (World.alloc j (.cells #[.int .i64 id] 3))
   rw[←a0]
   have b3:Ext j y:=by rw[a0];exact Ext.alloc _ _
   obtain⟨g3,a4⟩:=nxq ((j).heap.size)
   rw[←a4]
   have c:=c.below b3
   have r3:Row1 y (.slice (some ⟨g3,0,none⟩) 1 1) (([id]:List Int).map (.int .i64)):=by rw[a0,a4];exact Row1.made _ _ _ _ _ _ rfl rfl rfl (by unfold maxLen;omega)
   clear a0 a4
   have p:Ext b y:=I.trans b3
   refine a.o _ _ p (fun d=>?_)
   clear a K
   try simp only[nm]
   refine rdy 4 rfl fun K a=>?_
   go_simp
   refine(rint_any (bl:=[80,67,67,84]) (ns:=[id]) y c r3 (by simp)).mono ?_
   rintro e m ⟨r,rfl,f,l⟩
   have c:=c.below l
   have r3:=r3.below l
   have f:World.ownsRow m (b).heap.size 5 1 r 12 (([80,67,67,84]++be8s [id]).map bval):=zcp (zbv f p.size) (by rfl) rfl
   have r4:Row1 m r (([80,67,67,84]++be8s [id]).map bval):=Row1.of_own f
   have g:Ext b m:=p.trans l
   refine a.o _ _ g (fun d=>?_)
   clear a K
   try simp only[nm]
   refine rdy 6 rfl fun K a=>?_
   refine zan (by rfl) ?_
   refine zbh _ _ 24 rfl (b).heap.size 5 V (.int .u8 0) 1 q104 R.o M.o D.o a2.o rfl (r) 12 _ rfl f rfl ((zbz (n:=32) Z.o (by rw[q100];exact C.o) (by unfold maxLen;omega)).below g) (zac _) (by rw[q100,C.o];unfold maxLen;omega) (by rw[q100,C.o];omega) g.size ?_
   intro N s Q U
   have k:Ext b s:=zbf g f (q101 _) U
   have T:Row1 s N ((([80,67,67,84]++be8s [id]++key)).map bval):=by have h:=Row1.of_own Q;simpa using h
   refine a.o _ _ k (fun d=>?_)
   clear a K
   try simp only[nm]
   refine rdy 7 rfl fun K a=>?_
   go_simp
   refine a.o _ _ k (fun d=>?_)
   clear a K
   try simp only[nm]
   refine dne ?_
   have E:=jh T
   have G:=xxt a5 k
   generalize s=w9 at E G⊢
   go_wp2_with fail
   go_ret
   exact⟨_,rfl,E.o,G.o⟩
  refine zan (by rfl) ?_
  refine zbl (some 8) _ _ _ _ rfl rfl #[.int .i64 id] ij (.int .i64 0) Tryz.underlying63 a7.o a8.o (by rw[B.o];decide) (by rw[B.o];decide) (by rw[B.o];kernel_rfl) ?_
  obtain⟨j,u⟩:=nxq (World.alloc i (.cells #[.int .i64 id] 3))
  rw[←u]
  have L:Ext i j:=by rw[u];exact Ext.alloc _ _
  obtain⟨W,F⟩:=nxq ((i).heap.size)
  rw[←F]
  have c:=c.below L
  have o1:=zbn o1 L
  have q:Row1 j (.slice (some ⟨W,0,none⟩) 1 1) (([id]:List Int).map (.int .i64)):=by rw[u,F];exact Row1.made _ _ _ _ _ _ rfl rfl rfl (by unfold maxLen;omega)
  clear u F
  have I:Ext b j:=J.trans L
  refine a.o _ _ I (fun d=>?_)
  clear a K
  try simp only[nm]
  refine rdy 1 rfl fun K a=>?_
  obtain⟨y,a1,a3,a6,O⟩:=zds (P:=Tryz.prog) (t:=24) q104 q113 o1
  refine zan (by rfl) ?_
  refine wp_conv_d (some 6) _ _ _ _ _ _ rfl rfl rfl a1 ?_
  have c:=O _ _ c
  have q:=O _ _ q
  have p:Ext b y:=zab I a3 a6
  refine a.o _ _ p (fun d=>?_)
  clear a K
  try simp only[nm]
  refine rdy 4 rfl fun K a=>?_
  go_simp
  refine(rint_any (bl:=[80,67,67,84]) (ns:=[id]) y c q (by simp)).mono ?_
  rintro e m ⟨r,rfl,f,l⟩
  have c:=c.below l
  have q:=q.below l
  have f:World.ownsRow m (b).heap.size 5 1 r 12 (([80,67,67,84]++be8s [id]).map bval):=zcp (zbv f p.size) (by rfl) rfl
  have r4:Row1 m r (([80,67,67,84]++be8s [id]).map bval):=Row1.of_own f
  have g:Ext b m:=p.trans l
  refine a.o _ _ g (fun d=>?_)
  clear a K
  try simp only[nm]
  refine rdy 6 rfl fun K a=>?_
  refine zan (by rfl) ?_
  refine zbh _ _ 24 rfl (b).heap.size 5 V (.int .u8 0) 1 q104 R.o M.o D.o a2.o rfl (r) 12 _ rfl f rfl ((zbz (n:=32) Z.o (by rw[q100];exact C.o) (by unfold maxLen;omega)).below g) (zac _) (by rw[q100,C.o];unfold maxLen;omega) (by rw[q100,C.o];omega) g.size ?_
  intro N s Q U
  have k:Ext b s:=zbf g f (q101 _) U
  have T:Row1 s N ((([80,67,67,84]++be8s [id]++key)).map bval):=by have h:=Row1.of_own Q;simpa using h
  refine a.o _ _ k (fun d=>?_)
  clear a K
  try simp only[nm]
  refine rdy 7 rfl fun K a=>?_
  go_simp
  refine a.o _ _ k (fun d=>?_)
  clear a K
  try simp only[nm]
  refine dne ?_
  have E:=jh T
  have G:=xxt a5 k
  generalize s=w9 at E G⊢
  go_wp2_with fail
  go_ret
  exact⟨_,rfl,E.o,G.o⟩
 refine zan (by rfl) ?_
 refine zbl (some 8) _ _ _ _ rfl rfl #[.int .i64 id] ij (.int .i64 0) Tryz.underlying63 a7.o a8.o (by rw[B.o];decide) (by rw[B.o];decide) (by rw[B.o];kernel_rfl) ?_
 obtain⟨i,v⟩:=nxq (World.alloc b.drew (.cells #[.int .i64 id] 3))
 rw[←v]
 have b1:Ext b.drew i:=by rw[v];exact Ext.alloc _ _
 obtain⟨g1,H⟩:=nxq ((b.drew).heap.size)
 rw[←H]
 have c:Row1 i (.slice (some ⟨g1,0,none⟩) 1 1) (([id]:List Int).map (.int .i64)):=by rw[v,H];exact Row1.made _ _ _ _ _ _ rfl rfl rfl (by unfold maxLen;omega)
 clear v H
 have J:Ext b i:=Y.trans b1
 refine a.o _ _ J (fun d=>?_)
 clear a K
 try simp only[nm]
 refine rdy 0 rfl fun K a=>?_
 refine zan (by rfl) ?_
 refine zbl (some 5) _ _ _ _ rfl rfl #[.int .u8 80,.int .u8 67,.int .u8 67,.int .u8 84] V (.int .u8 0) q104 R.o M.o (by rw[D.o];decide) (by rw[D.o];decide) (by rw[D.o];kernel_rfl) ?_
 obtain⟨j,u⟩:=nxq (World.alloc i (.cells #[.int .u8 80,.int .u8 67,.int .u8 67,.int .u8 84] 5))
 rw[←u]
 have L:Ext i j:=by rw[u];exact Ext.alloc _ _
 obtain⟨W,F⟩:=nxq ((i).heap.size)
 rw[←F]
 have c:=c.below L
 have q:Row1 j (.slice (some ⟨W,0,none⟩) 4 4) (([80,67,67,84]:List UInt8).map bval):=by rw[u,F];exact Row1.made _ _ _ _ _ _ rfl rfl rfl (by unfold maxLen;omega)
 have o2:World.ownsRow j (b).heap.size 5 1 (.slice (some ⟨W,0,none⟩) 4 4) 4 (([80,67,67,84]:List UInt8).map bval):=by rw[u,F];exact own_made _ _ _ _ _ _ rfl rfl (by unfold maxLen;omega) J.size
 clear u F
 have I:Ext b j:=J.trans L
 refine a.o _ _ I (fun d=>?_)
 clear a K
 try simp only[nm]
 refine rdy 1 rfl fun K a=>?_
 obtain⟨y,a1,a3,a6,O⟩:=zds (P:=Tryz.prog) (t:=24) q104 q113 o2
 refine zan (by rfl) ?_
 refine wp_conv_d (some 6) _ _ _ _ _ _ rfl rfl rfl a1 ?_
 have c:=O _ _ c
 have q:=O _ _ q
 have p:Ext b y:=zab I a3 a6
 refine a.o _ _ p (fun d=>?_)
 clear a K
 try simp only[nm]
 refine rdy 4 rfl fun K a=>?_
 go_simp
 refine(rint_any (bl:=[80,67,67,84]) (ns:=[id]) y q c (by simp)).mono ?_
 rintro e m ⟨r,rfl,f,l⟩
 have c:=c.below l
 have q:=q.below l
 have f:World.ownsRow m (b).heap.size 5 1 r 12 (([80,67,67,84]++be8s [id]).map bval):=zcp (zbv f p.size) (by rfl) rfl
 have r4:Row1 m r (([80,67,67,84]++be8s [id]).map bval):=Row1.of_own f
 have g:Ext b m:=p.trans l
 refine a.o _ _ g (fun d=>?_)
 clear a K
 try simp only[nm]
 refine rdy 6 rfl fun K a=>?_
 refine zan (by rfl) ?_
 refine zbh _ _ 24 rfl (b).heap.size 5 V (.int .u8 0) 1 q104 R.o M.o D.o a2.o rfl (r) 12 _ rfl f rfl ((zbz (n:=32) Z.o (by rw[q100];exact C.o) (by unfold maxLen;omega)).below g) (zac _) (by rw[q100,C.o];unfold maxLen;omega) (by rw[q100,C.o];omega) g.size ?_
 intro N s Q U
 have k:Ext b s:=zbf g f (q101 _) U
 have T:Row1 s N ((([80,67,67,84]++be8s [id]++key)).map bval):=by have h:=Row1.of_own Q;simpa using h
 refine a.o _ _ k (fun d=>?_)
 clear a K
 try simp only[nm]
 refine rdy 7 rfl fun K a=>?_
 go_simp
 refine a.o _ _ k (fun d=>?_)
 clear a K
 try simp only[nm]
 refine dne ?_
 have E:=jh T
 have G:=xxt a5 k
 generalize s=w9 at E G⊢
 go_wp2_with fail
 go_ret
 exact⟨_,rfl,E.o,G.o⟩
theorem rsmall_q(n:Int)(r:Bool)(w:World)(b:smallB n=r):Calls Tryz.prog 29 #[.int .i64 n] w fun e a=>e=.returned (.bool r)∧w=a:=by
 subst b
 exact rsmall_any n w
theorem own_lenB {w:World} {base n:Nat} {x:Value} {l:List UInt8}(h:w.ownsRow base 5 1 x n (l.map bval)):l.length=n:=by
 have e:=h.1
 rw[q100]at e
 omega
theorem body_said {ver blk cid:Int} {root wr b a sig:List UInt8}:(Man.mk ver blk root wr cid b a sig).body=((((([80,67,77,49]++be8s [ver,blk])++root)++wr)++be8s [cid])++b)++a:=by
 unfold Man.body
 simp only[q109]
theorem rBody_any(m:Man)(wv:Value)(w:World)(a:m.Arr)(hw:Row1 w wv (m.wr.map bval)):
  Calls Tryz.prog 12 #[.agg (manC m wv).toArray] w fun e I=>∃x,e=.returned (.tuple #[x,.int .i64 m.err])∧I.ownsRow w.heap.size 5 1 x m.bodL.length (m.bodL.map bval)∧Below w.heap.size w I:=by
 obtain⟨T,hi,af,ag,aj⟩:=info_parts Tryz.info5
 obtain⟨ij,ah,ai,ap⟩:=info_two (P:=Tryz.prog) (t:=3) (z:=.int .i64 0) (n:=1) (by kernel_rfl)
 obtain⟨Z,a0,W,U,b1,b3⟩:=jq6 hi af ag aj ah ai
 have b2:=jh ap
 clear hi af ag aj ah ai ap
 obtain⟨ad,cp,am,aq,ax,_⟩:=id hw
 rw[q100]at am aq
 subst am
 obtain⟨q,r⟩:=jq2 a (Ext.alloc w (.cells (manC m (.slice ad m.wr.length cp)).toArray 30))
 obtain⟨aw,a2⟩:=jq2 (hw.below r.o) (Blk.made w (manC m (.slice ad m.wr.length cp)) 30)
 clear a hw aq ax
 go_enter Tryz.func12,Tryz.ntmps12
 go_upto_region 1 with(fail)
 change Code.wp _ _ _ _ (w.alloc (.cells (manC m (.slice ad m.wr.length cp)).toArray 30))
 generalize w.alloc (.cells (manC m (.slice ad m.wr.length cp)).toArray 30)=b at*
 obtain⟨A,hA⟩:=nxq w.heap.size
 rw[←hA]at a2⊢
 clear hA
 have ae:=a2.o.lt
 obtain⟨p0,p1,p2,p3,p4,_,p6,p7,_⟩:=zed a2.o q.o
 obtain⟨az,ao⟩:=jq2 p1 p3
 have au:=jh (row_rng (n:=32) p2 ae (by rw[q100,q.o.root]) (by unfold maxLen;omega))
 have ar:=jh (row_rng (n:=32) p6 ae (by rw[q100,q.o.ckey]) (by unfold maxLen;omega))
 have av:=jh (row_rng (n:=64) p7 ae (by rw[q100,q.o.csig]) (by unfold maxLen;omega))
 obtain⟨b0,a1⟩:=jq2 p0 p4
 clear p2 p6 p7 a2
 have H:=jh (@Man.no m)
 cases h1:smallB m.ver with
 |false=>
  have f:=jh (H.o (fun h=>by rw[h1]at h;cases h.1))
  go_wp2_with fail
  refine(rsmall_q m.ver false b h1).mono ?_
  rintro e w3 ⟨rfl,rfl⟩
  go_wp2_with fail
  refine bodyPost_ret (zdk rfl _ _) rfl ?_
  exact⟨_,by rw[f.o.1];rfl,by rw[f.o.2];exact World.ownsRow_nil _ _ _ _,r.o⟩
 |true=>
 have HV:=jh h1
 go_wp2_with fail
 refine(rsmall_q m.ver true b h1).mono ?_
 rintro e w3 ⟨rfl,rfl⟩
 clear h1
 by_cases h2:m.blk<1
 ·have al:decide (m.blk<1)=true:=decide_eq_true h2
  have f:=jh (H.o (fun h=>absurd h.2.1 (by omega)))
  go_wp2_with fail
  refine bodyPost_ret (zdk rfl _ _) rfl ?_
  exact⟨_,by rw[f.o.1];rfl,by rw[f.o.2];exact World.ownsRow_nil _ _ _ _,r.o⟩
 have al:decide (m.blk<1)=false:=decide_eq_false h2
 by_cases h3:32<m.blk
 ·have ak:decide (32<m.blk)=true:=decide_eq_true h3
  have f:=jh (H.o (fun h=>absurd h.2.2.1 (by omega)))
  go_wp2_with fail
  refine bodyPost_ret (zdk rfl _ _) rfl ?_
  exact⟨_,by rw[f.o.1];rfl,by rw[f.o.2];exact World.ownsRow_nil _ _ _ _,r.o⟩
 have ak:decide (32<m.blk)=false:=decide_eq_false h3
 by_cases Q:m.wr.length=80
 ·cases h5:smallB m.cid with
  |false=>
   have f:=jh (H.o (fun h=>by rw[h5]at h;cases h.2.2.2.2))
   go_wp2_with fail
   refine(rsmall_q m.cid false b h5).mono ?_
   rintro e w3 ⟨rfl,rfl⟩
   go_wp2_with fail
   refine bodyPost_ret (zdk rfl _ _) rfl ?_
   exact⟨_,by rw[f.o.1];rfl,by rw[f.o.2];exact World.ownsRow_nil _ _ _ _,r.o⟩
  |true=>
  have f:=jh (Man.yes (Man.ok_of HV.o (by omega) (by omega) Q h5))
  have ay:=jh (Man.body_length q.o Q)
  go_wp2_with fail
  refine(rsmall_q m.cid true b h5).mono ?_
  rintro e w3 ⟨rfl,rfl⟩
  have a5:=jh Q
  clear h2 h3 Q h5 al ak H HV
  obtain⟨ver,blk,root,wr,cid,R,aa,sig⟩:=m
  have a8:Hid (root.length=32):=jh q.o.root
  have ac:Hid (R.length=32):=jh q.o.ckey
  have a9:Hid (aa.length=64):=jh q.o.csig
  dsimp only at*
  have kc:=fun (w:World) (C:Array Value) (n c:Nat)=>Lib.run_convert_bytes_const (P:=Tryz.prog) w 24 5 C n c q104 q113
  have r1:Row1 (b.alloc (.cells #[.int .u8 80,.int .u8 67,.int .u8 77,.int .u8 49] 5 (4,5))) (.slice (some ⟨b.heap.size,0,none⟩) 4 4) (([80,67,77,49]:List UInt8).map bval):=Row1.made_mark b _ _ _ _ _ _ rfl rfl rfl (by unfold maxLen;omega)
  have e1:Ext b (b.alloc (.cells #[.int .u8 80,.int .u8 67,.int .u8 77,.int .u8 49] 5 (4,5))):=Ext.alloc _ _
  have hs:(b.alloc (.cells #[.int .u8 80,.int .u8 67,.int .u8 77,.int .u8 49] 5 (4,5))).heap.size=b.heap.size+1:=by simp
  have v:=Ext.alloc (b.alloc (.cells #[.int .u8 80,.int .u8 67,.int .u8 77,.int .u8 49] 5 (4,5))) (.cells #[.int .i64 ver,.int .i64 blk] 3)
  have u:Row1 ((b.alloc (.cells #[.int .u8 80,.int .u8 67,.int .u8 77,.int .u8 49] 5 (4,5))).alloc (.cells #[.int .i64 ver,.int .i64 blk] 3)) (.slice (some ⟨b.heap.size+1,0,none⟩) 2 2) (([ver,blk]:List Int).map (.int .i64)):=Row1.made _ #[.int .i64 ver,.int .i64 blk] 3 _ 2 _ hs rfl rfl (by unfold maxLen;omega)
  have N:=jh (rint_any (bl:=[80,67,77,49]) (ns:=[ver,blk]) _ (r1.below v) u (by simp))
  have i:=jh (e1.trans v)
  clear r1 e1 hs v u
  go_wp2_with fail
  refine N.o.mono ?_
  rintro e Y ⟨G,rfl,L,M⟩
  have HO:Hid (Y.ownsRow b.heap.size 5 1 G 20 (([80,67,77,49]++be8s [ver,blk]).map bval)):=jh (zcp (zbv L i.o.size) rfl rfl)
  have i:=jh (i.o.trans M)
  clear L M N p0 p1 p3
  go_upto_region 4 with(fail)
  have l:Ext b Y.drew:=(i.o).trans (Ext.drew _)
  refine wp_region_held_drew (S:=fun I=>Ext b I) (by kernel_rfl) l (fun d=>?_)
  have B:World.ownsRow Y.drew (b).heap.size 5 1 G 20 (([80,67,77,49]++be8s [ver,blk]).map bval):=zbn HO.o (Ext.drew _)
  have r0:Row1 Y.drew G (([80,67,77,49]++be8s [ver,blk]).map bval):=Row1.of_own B
  refine tke 0 G rfl (zbe _ (G) (by rfl) rfl rfl) d ?_
  simp only[nm]
  refine tke 1 (.pointer (some ⟨A,2,none⟩)) rfl (zaz (.pointer (some ⟨A,2,none⟩)) (by rfl) (fun w _=>by go_simp)) d ?_
  simp only[nm]
  refine tke 2 (.slice (some ⟨A,2,none⟩) 32 32) rfl (zbp _ _ _ _ (.pointer (some ⟨A,2,none⟩)) (.slice (some ⟨A,2,none⟩) 32 32) none none (by rfl) rfl rfl rfl rfl (fun w=>zdb q102 q111 (by omega) _ _ w)) d ?_
  simp only[nm]
  refine tke 4 (.pointer (some ⟨A,34,none⟩)) rfl (zaz (.pointer (some ⟨A,34,none⟩)) (by rfl) (fun w _=>by go_simp)) d ?_
  simp only[nm]
  refine tke 5 (.slice ad wr.length cp) rfl (zaz (.slice ad wr.length cp) (by rfl) (fun w h=>by have hc:=(Below.cell h (q146 b _ ao.o)).trans ao.o;go_simp)) d ?_
  simp only[nm]
  refine rdy 3 rfl fun K g=>?_
  refine zan (by rfl) ?_
  refine zbh _ _ 24 rfl (b).heap.size 5 T (.int .u8 0) 1 q104 Z.o a0.o W.o U.o rfl (G) 20 _ rfl B rfl ((au.o).below l) (zac _) (by rw[q100,a8.o];unfold maxLen;omega) (by rw[q100,a8.o];omega) l.size ?_
  intro s D a3 ab
  have p:Ext b D:=zbf l B (q101 _) ab
  have y:World.ownsRow D (b).heap.size 5 1 s 52 ((([80,67,77,49]++be8s [ver,blk])++root).map bval):=zcp a3 (by rw[q100,a8.o]) (by simp only[q110])
  have r1:Row1 D s ((([80,67,77,49]++be8s [ver,blk])++root).map bval):=Row1.of_own y
  refine g.o _ _ p (fun d=>?_)
  clear g K
  try simp only[nm]
  refine rdy 6 rfl fun K g=>?_
  refine zan (by rfl) ?_
  refine zbh _ _ 24 rfl (b).heap.size 5 T (.int .u8 0) 1 q104 Z.o a0.o W.o U.o rfl (s) 52 _ rfl y rfl ((aw.o).below p) (zac _) (by rw[q100,a5.o];unfold maxLen;omega) (by rw[q100,a5.o];omega) p.size ?_
  intro j k a6 a7
  have E:Ext b k:=zbf p y (q101 _) a7
  have O:World.ownsRow k (b).heap.size 5 1 j 132 (((([80,67,77,49]++be8s [ver,blk])++root)++wr).map bval):=zcp a6 (by rw[q100,a5.o]) (by simp only[q110])
  have u:Row1 k j (((([80,67,77,49]++be8s [ver,blk])++root)++wr).map bval):=Row1.of_own O
  refine g.o _ _ E (fun d=>?_)
  clear g K
  try simp only[nm]
  refine rdy 7 rfl fun K g=>?_
  go_simp
  refine g.o _ _ E (fun d=>?_)
  clear g K
  try simp only[nm]
  refine dne ?_
  obtain⟨F,V⟩:=jq2 O E
  generalize k=wc at F V⊢
  generalize j=x5 at F⊢
  have a1:=jh ((Below.cell V.o (q146 b _ a1.o)).trans a1.o)
  have p4:=a1.o
  have i:=V
  have v:=Ext.alloc wc (.cells #[.int .i64 cid] 3)
  have u:Row1 (wc.alloc (.cells #[.int .i64 cid] 3)) (.slice (some ⟨wc.heap.size,0,none⟩) 1 1) (([cid]:List Int).map (.int .i64)):=Row1.made _ #[.int .i64 cid] 3 _ 1 _ rfl rfl rfl (by unfold maxLen;omega)
  have N:=jh (rint_any (bl:=(([80,67,77,49]++be8s [ver,blk])++root)++wr) (ns:=[cid]) _ ((Row1.of_own F.o).below v) u (by rw[own_lenB F.o];simp))
  have i:=jh (i.o.trans v)
  clear u v
  go_wp2_with fail
  refine N.o.mono ?_
  rintro e X ⟨J,rfl,L,M⟩
  have HO:Hid (X.ownsRow b.heap.size 5 1 J 140 ((((([80,67,77,49]++be8s [ver,blk])++root)++wr)++be8s [cid]).map bval)):=jh (zcp (zbv L i.o.size) (by rw[own_lenB F.o];rfl) rfl)
  have i:=jh (i.o.trans M)
  clear L M N F V p4
  go_upto_region 6 with(fail)
  have l:Ext b X.drew:=(i.o).trans (Ext.drew _)
  refine wp_region_held_drew (S:=fun I=>Ext b I) (by kernel_rfl) l (fun d=>?_)
  have B:World.ownsRow X.drew (b).heap.size 5 1 J 140 ((((([80,67,77,49]++be8s [ver,blk])++root)++wr)++be8s [cid]).map bval):=zbn HO.o (Ext.drew _)
  have r0:Row1 X.drew J ((((([80,67,77,49]++be8s [ver,blk])++root)++wr)++be8s [cid]).map bval):=Row1.of_own B
  refine tke 0 J rfl (zbe _ (J) (by rfl) rfl rfl) d ?_
  simp only[nm]
  refine tke 1 (.pointer (some ⟨A,35,none⟩)) rfl (zaz (.pointer (some ⟨A,35,none⟩)) (by rfl) (fun w _=>by go_simp)) d ?_
  simp only[nm]
  refine tke 2 (.pointer (some ⟨A,36,none⟩)) rfl (zaz (.pointer (some ⟨A,36,none⟩)) (by rfl) (fun w _=>by go_simp)) d ?_
  simp only[nm]
  refine tke 3 (.slice (some ⟨A,36,none⟩) 32 32) rfl (zbp _ _ _ _ (.pointer (some ⟨A,36,none⟩)) (.slice (some ⟨A,36,none⟩) 32 32) none none (by rfl) rfl rfl rfl rfl (fun w=>zdb q102 q111 (by omega) _ _ w)) d ?_
  simp only[nm]
  refine tke 5 (.pointer (some ⟨A,35,none⟩)) rfl (zaz (.pointer (some ⟨A,35,none⟩)) (by rfl) (fun w _=>by go_simp)) d ?_
  simp only[nm]
  refine tke 6 (.pointer (some ⟨A,68,none⟩)) rfl (zaz (.pointer (some ⟨A,68,none⟩)) (by rfl) (fun w _=>by go_simp)) d ?_
  simp only[nm]
  refine tke 7 (.slice (some ⟨A,68,none⟩) 64 64) rfl (zbp _ _ _ _ (.pointer (some ⟨A,68,none⟩)) (.slice (some ⟨A,68,none⟩) 64 64) none none (by rfl) rfl rfl rfl rfl (fun w=>zdb q126 q111 (by omega) _ _ w)) d ?_
  simp only[nm]
  refine rdy 4 rfl fun K g=>?_
  refine zan (by rfl) ?_
  refine zbh _ _ 24 rfl (b).heap.size 5 T (.int .u8 0) 1 q104 Z.o a0.o W.o U.o rfl (J) 140 _ rfl B rfl ((ar.o).below l) (zac _) (by rw[q100,ac.o];unfold maxLen;omega) (by rw[q100,ac.o];omega) l.size ?_
  intro s D a3 ab
  have p:Ext b D:=zbf l B (q101 _) ab
  have y:World.ownsRow D (b).heap.size 5 1 s 172 (((((([80,67,77,49]++be8s [ver,blk])++root)++wr)++be8s [cid])++R).map bval):=zcp a3 (by rw[q100,ac.o]) (by simp only[q110])
  have r1:Row1 D s (((((([80,67,77,49]++be8s [ver,blk])++root)++wr)++be8s [cid])++R).map bval):=Row1.of_own y
  refine g.o _ _ p (fun d=>?_)
  clear g K
  try simp only[nm]
  refine rdy 8 rfl fun K g=>?_
  refine zan (by rfl) ?_
  refine zbh _ _ 24 rfl (b).heap.size 5 T (.int .u8 0) 1 q104 Z.o a0.o W.o U.o rfl (s) 172 _ rfl y rfl ((av.o).below p) (zac _) (by rw[q100,a9.o];unfold maxLen;omega) (by rw[q100,a9.o];omega) p.size ?_
  intro j k a6 a7
  have E:Ext b k:=zbf p y (q101 _) a7
  have O:World.ownsRow k (b).heap.size 5 1 j 236 ((((((([80,67,77,49]++be8s [ver,blk])++root)++wr)++be8s [cid])++R)++aa).map bval):=zcp a6 (by rw[q100,a9.o]) (by simp only[q110])
  have u:Row1 k j ((((((([80,67,77,49]++be8s [ver,blk])++root)++wr)++be8s [cid])++R)++aa).map bval):=Row1.of_own O
  refine g.o _ _ E (fun d=>?_)
  clear g K
  try simp only[nm]
  refine tke 9 j rfl (yi_assign _ (j) (by rfl) rfl rfl) d ?_
  simp only[nm]
  refine rdy 10 rfl fun K g=>?_
  go_simp
  refine g.o _ _ E (fun d=>?_)
  clear g K
  try simp only[nm]
  refine dne ?_
  obtain⟨a4,an⟩:=jq2 O E
  generalize k=we at a4 an⊢
  generalize j=x7 at a4⊢
  go_wp2_with fail
  refine bodyPost_ret (zdk rfl _ _) rfl ?_
  exact⟨_,by rw[f.o.1];rfl,zcp (zbv a4.o r.o.size) (by rw[f.o.2,ay.o]) (by rw[f.o.2,body_said]),r.o.trans an.o⟩
 have f:=jh (H.o (fun h=>Q h.2.2.2.1))
 have b4:((m.wr.length:Int)==80)=false:=by simp;omega
 go_wp2_with fail
 refine bodyPost_ret (zdk rfl _ _) rfl ?_
 exact⟨_,by rw[f.o.1];rfl,by rw[f.o.2];exact World.ownsRow_nil _ _ _ _,r.o⟩
section
structure Tld where
 p:Value→World→Prop
 q:Value→World→Prop
 k:Option Nat
 hp:∀v w w',p v w→(∀x xs,Row1 w x xs→Row1 w' x xs)→p v w'
 hq:∀v w w',q v w→Ext w w'→q v w'
def Tld.is(c:Value):Tld:=⟨fun v _=>v=c,fun _ _=>True,none,fun _ _ _ h _=>h,fun _ _ _ h _=>h⟩
def Tld.row(l:List Value):Tld:=⟨fun v w=>Row1 w v l,fun _ _=>True,none,fun _ _ _ h g=>g _ _ h,fun _ _ _ h _=>h⟩
def Tld.any:Tld:=⟨fun _ _=>True,fun _ _=>True,none,fun _ _ _ h _=>h,fun _ _ _ h _=>h⟩
def Tld.own(base:Nat)(e:TypeId)(n:Nat)(l:List Value)(k:Nat):Tld:=⟨fun v w=>Row1 w v l,fun v w=>w.ownsRow base e 1 v n l,some k,fun _ _ _ h g=>g _ _ h,fun _ _ _ h g=>zbn h g⟩
def Tld.at(s:Tld)(L:Nat→Bool)(v:Value)(w:World):Prop:=s.p v w∧∀k,s.k=some k→L k=false→s.q v w
abbrev RelL:=List (Nat×Option Nat×Tld)
def RelL.of(L:RelL)(i:Nat):Tld:=match L.find? (fun x=>x.1==i)with
 |some x=>x.2.2
 |none=>Tld.any
def putsR(u:Nat→Value):RelL→Act→Act
 |[],a=>a
 |x::r,a=>putsR u r (a.put x.2.1 (u x.1))
def updR(u:Nat→Value)(i:Nat)(v:Value):Nat→Value:=fun j=>if j=i then v else u j
theorem putsR_congr {u b:Nat→Value}:∀(L:RelL) (a:Act),(∀x∈L,u x.1=b x.1)→putsR u L a=putsR b L a
 |[],_,_=>rfl
 |x::r,a,h=>by
  unfold putsR
  rw[h x (List.mem_cons_self ..)]
  exact putsR_congr r _ (fun y c=>h y (q171 _ c))
theorem put_again(a:Act)(d:Option Nat)(x v:Value):(a.put d x).put d v=a.put d v:=by
 cases d with
 |none=>rfl
 |some d=>
  unfold Act.put
  simp only
  congr 1
  rcases a.tmps with⟨l⟩
  simp only[List.setIfInBounds_toArray,List.set_set]
theorem putsR_comm {u:Nat→Value} {d:Option Nat}(v:Value):∀(L:RelL) (a:Act),(∀x∈L,d=none∨x.2.1≠d)→(putsR u L a).put d v=putsR u L (a.put d v)
 |[],_,_=>rfl
 |x::r,a,h=>by
  unfold putsR
  rw[putsR_comm v r _ (fun y b=>h y (q171 _ b))]
  congr 1
  rcases h x (List.mem_cons_self ..)with rfl|f
  ·rfl
  exact Act.put_comm a (u x.1) v (fun e g c=>f (by rw[g,c]))
def RelL.apart:RelL→Bool
 |[]=>true
 |x::r=>r.all (fun y=>y.1 !=x.1 && (x.2.1==none||y.2.1 !=x.2.1)) && RelL.apart r
theorem putsR_put {u:Nat→Value} {i:Nat} {d:Option Nat} {s:Tld}(v:Value):∀(L:RelL) (a:Act),RelL.apart L=true→(i,d,s)∈L→(putsR u L a).put d v=putsR (updR u i v) L a
 |[],_,_,h=>by cases h
 |x::r,a,hA,h=>by
  unfold RelL.apart at hA
  rw[Bool.and_eq_true]at hA
  obtain⟨h1,h2⟩:=hA
  have h1:∀y∈r,(y.1≠x.1)∧(x.2.1=none∨y.2.1≠x.2.1):=fun y b=>by simpa using List.all_eq_true.1 h1 y b
  unfold putsR
  by_cases c:x=(i,d,s)
  ·subst c
   rw[putsR_comm v r _ (fun y b=>(h1 y b).2),put_again]
   rw[show updR u i v i=v from if_pos rfl]
   exact putsR_congr r _ (fun y b=>by
    unfold updR
    rw[if_neg (h1 y b).1])
  have f:(i,d,s)∈r:=by
   rcases List.mem_cons.1 h with e|e
   ·exact absurd e.symm c
   exact e
  rw[putsR_put v r _ h2 f]
  have:x.1≠i:=fun e=>(h1 _ f).1 e.symm
  rw[show updR u i v x.1=u x.1 from if_neg this]
theorem put_self(a:Act)(d:Option Nat):a.put d (match d with|some d=>a.tmps.getD d undef|none=>undef)=a:=by
 cases d with
 |none=>rfl
 |some d=>
  unfold Act.put
  simp only
  obtain⟨⟨l⟩,b⟩:=a
  congr 1
  simp only[List.setIfInBounds_toArray,Array.getD_eq_getD_getElem?,List.getElem?_toArray]
  congr 1
  by_cases h:d<l.length
  ·rw[List.getElem?_eq_getElem h]
   simp
  rw[List.set_eq_of_length_le (by omega)]
theorem putsR_self(a:Act):∀(L:RelL),(∀u:Nat→Value,(∀x∈L,u x.1=(match x.2.1 with|some d=>a.tmps.getD d undef|none=>undef))→putsR u L a=a)
 |[],_,_=>rfl
 |x::r,u,h=>by
  unfold putsR
  rw[h x (List.mem_cons_self ..),put_self]
  exact putsR_self a r u (fun y b=>h y (q171 _ b))
section
variable {P:Program} {md:Region.Mode} {ops:Array Oper} {Q:Exit→Act→World→Prop}
def relEdge(md:Region.Mode)(ops:Array Oper)(i j:Nat):Bool:=((ops[i]?).map fun o=>o.after.any fun e=>Region.binds md e && e.on==j).getD false
inductive RelOb (P:Program) (md:Region.Mode) (ops:Array Oper) (Q:Exit→Act→World→Prop) (B:World) (L0:RelL) (u:Nat→Value) (a:Act):RelL→Prop
 |nil:RelOb P md ops Q B L0 u a []
 |cons {i:Nat} {d:Option Nat} {s:Tld} {r:RelL} {oi:Oper} (ho:ops[i]? =some oi) (hd:oi.dst=d)
   (h:∀(w:World) (K:Act→World→Prop),Ext B w→(∀j,relEdge md ops i j=true→(L0.of j).p (u j) w∧((L0.of j).k=some i→(L0.of j).q (u j) w))→
    Shut (∀v w',((Ext w w')∨(Ext B w'∧(∀x xs,Row1 w x xs→Row1 w' x xs)∧(L0.all fun y=>y.2.2.k==none||y.2.2.k==some i)=true))→s.p v w'∧(s.k.isSome=true→s.q v w')→K (a.put d v) w')→
    if Region.wanted oi (yielded ops a.tmps)=true then oi.wp P a w K Q else K (a.put d undef) w)
   (t:RelOb P md ops Q B L0 u a r):RelOb P md ops Q B L0 u a ((i,d,s)::r)
theorem RelOb.get {B:World} {c:RelL} {u:Nat→Value} {a:Act} {i:Nat} {d:Option Nat} {s:Tld}:∀{L:RelL},RelOb P md ops Q B c u a L→(i,d,s)∈L→∃f,ops[i]? =some f∧f.dst=d∧∀(w:World) (K:Act→World→Prop),Ext B w→(∀j,relEdge md ops i j=true→(c.of j).p (u j) w∧((c.of j).k=some i→(c.of j).q (u j) w))→
    Shut (∀v b,((Ext w b)∨(Ext B b∧(∀x g,Row1 w x g→Row1 b x g)∧(c.all fun y=>y.2.2.k==none||y.2.2.k==some i)=true))→s.p v b∧(s.k.isSome=true→s.q v b)→K (a.put d v) b)→
    if Region.wanted f (yielded ops a.tmps)=true then f.wp P a w K Q else K (a.put d undef) w
 |_,.nil,h=>by cases h
 |_,.cons ho hd hh t,h=>by
  rcases List.mem_cons.1 h with e|e
  ·cases e
   exact⟨_,ho,hd,hh⟩
  exact t.get e
theorem RelL.of_mem:∀{L:RelL} {i:Nat} {d:Option Nat} {s:Tld},RelL.apart L=true→(i,d,s)∈L→L.of i=s
 |x::r,i,d,s,hA,h=>by
  unfold RelL.apart at hA
  rw[Bool.and_eq_true]at hA
  obtain⟨h1,h2⟩:=hA
  have h1:∀y∈r,(y.1≠x.1):=fun y a=>by
   have:=List.all_eq_true.1 h1 y a
   simp at this
   exact this.1
  unfold RelL.of
  rcases List.mem_cons.1 h with e|e
  ·subst e
   simp
  have b:=h1 _ e
  rw[List.find?_cons_of_neg (by simpa using fun c=>b c.symm)]
  exact RelL.of_mem h2 e
theorem RelL.uniq {L:RelL}(b:RelL.apart L=true) {i:Nat} {d e:Option Nat} {s a:Tld}(h:(i,d,s)∈L)(c:(i,e,a)∈L):s=a:=(RelL.of_mem b h).symm.trans (RelL.of_mem b c)
theorem RelL.of_none {L:RelL} {j:Nat}(h:∀d s,(j,d,s) ∉ L):L.of j=Tld.any:=by
 unfold RelL.of
 have:L.find? (fun x=>x.1==j)=none:=by
  rw[List.find?_eq_none]
  rintro⟨i,d,s⟩ a b
  have e:i=j:=by simpa using b
  subst e
  exact h d s a
 rw[this]
theorem getD_in {l:Array Bool} {i:Nat}(h:i<l.size):l.getD i true=l.getD i false:=by
 simp[Array.getD,h]
theorem getD_set {l:Array Bool} {i:Nat}(h:i<l.size)(k:Nat)(b:Bool):(l.setIfInBounds i true).getD k b=if k=i then true else l.getD k b:=by
 simp only[Array.getD_eq_getD_getElem?,Array.getElem?_setIfInBounds]
 by_cases e:i=k
 ·subst e
  simp[h]
 rw[if_neg e,if_neg (fun x=>e x.symm)]
theorem count_less {l:Array Bool} {n i:Nat}(g:l.size=n)(h:i<n)(c:l.getD i true=false) {f:Nat}(b:((List.range n).filter (fun j=>!l.getD j true)).length=f+1):((List.range n).filter (fun j=>!(l.setIfInBounds i true).getD j true)).length=f:=by
 have e:(List.range n).filter (fun j=>!(l.setIfInBounds i true).getD j true)=((List.range n).filter (fun j=>!l.getD j true)).erase i:=by
  rw[List.Nodup.erase_eq_filter (List.Nodup.sublist List.filter_sublist List.nodup_range),List.filter_filter]
  apply List.filter_congr
  intro j d
  rw[getD_set (by omega)]
  by_cases a:j=i
  ·subst a
   simp
  simp[a]
 rw[e,List.length_erase_of_mem (by rw[List.mem_filter];exact⟨List.mem_range.2 h,by rw[c];rfl⟩),b]
 rfl
theorem rel_go {B:World} {L:RelL} {a:Act}(M:RelL.apart L=true)
  (a4:∀x∈L,∃o,ops[x.1]? =some o∧∀e∈o.after,Region.binds md e=true→e.on<x.1)
  (ob:∀u,RelOb P md ops Q B L u (putsR u L a) L)
  (a0:∀u w,Ext B w→(∀x∈L,x.2.2.p (u x.1) w∧∀k,x.2.2.k=some k→ops.size≤k→x.2.2.q (u x.1) w)→Q .normal (putsR u L a) w):
  ∀(fuel:Nat) (b:Array Bool) (u:Nat→Value) (w:World),b.size=ops.size→((List.range ops.size).filter (fun i=>!b.getD i true)).length=fuel→
   (∀i,i<ops.size→b.getD i true=false→∃d s,(i,d,s)∈L)→(∀x∈L,x.1<ops.size)→Ext B w→(∀x∈L,b.getD x.1 false=true→x.2.2.at (fun k=>b.getD k false) (u x.1) w)→
   wpAnyH P md ops Q (fun D=>Ext B D) fuel b (putsR u L a) w:=by
 -- where none is ready U have come up
 have U:∀b:Array Bool,b.size=ops.size→(∀i,i<ops.size→b.getD i true=false→∃d s,(i,d,s)∈L)→Region.ready md ops b=[]→∀i,i<ops.size→b.getD i true=true:=by
  intro b m n t i
  induction i using Nat.strongRecOn with
  |ind i S=>
   intro c
   cases F:b.getD i true with
   |true=>rfl
   |false=>
    obtain⟨d,s,r⟩:=n i c F
    obtain⟨o,A,R⟩:=a4 _ r
    have:i∈Region.ready md ops b:=by
     unfold Region.ready
     rw[List.mem_filter]
     refine⟨List.mem_range.2 c,?_⟩
     rw[F,show ops[i]? =some o from A]
     simp only[Bool.not_false,Bool.true_and,Option.map_some,Option.getD_some]
     rw[Array.all_eq_true_iff_forall_mem]
     intro e a7
     cases hbd:Region.binds md e with
     |false=>rfl
     |true=>
      have g:=R e a7 hbd
      have h2:=S e.on g (Nat.lt_trans g c)
      rw[getD_in (by rw[m];exact Nat.lt_trans g c)]at h2
      rw[h2]
      rfl
    rw[t]at this
    cases this
 have done:∀(b:Array Bool) (u:Nat→Value) (w:World),b.size=ops.size→(∀i,i<ops.size→b.getD i true=false→∃d s,(i,d,s)∈L)→(∀x∈L,x.1<ops.size)→Ext B w→(∀x∈L,b.getD x.1 false=true→x.2.2.at (fun k=>b.getD k false) (u x.1) w)→Region.ready md ops b=[]→Q .normal (putsR u L a) w:=by
  intro b u w m n g y z t
  refine a0 u w y (fun x r=>?_)
  have h1:=U b m n t x.1 (g x r)
  rw[getD_in (by rw[m];exact g x r)]at h1
  obtain⟨h2,h3⟩:=z x r h1
  exact⟨h2,fun k f a9=>h3 k f (by simp[Array.getD,show ¬k<b.size by omega])⟩
 intro fuel
 induction fuel with
 |zero=>
  intro b u w m N n g y z
  have t:Region.ready md ops b=[]:=by
   rw[List.eq_nil_iff_forall_not_mem]
   intro i c
   unfold Region.ready at c
   rw[List.mem_filter,Bool.and_eq_true]at c
   have:i∈(List.range ops.size).filter (fun i=>!b.getD i true):=List.mem_filter.2 ⟨c.1,c.2.1⟩
   rw[q154 N]at this
   cases this
  exact⟨t,done b u w m n g y z t⟩
 |succ fuel S=>
  intro b u w m N n g y z
  refine⟨done b u w m n g y z,fun i c=>?_⟩
  have aa:=c
  unfold Region.ready at c
  rw[List.mem_filter,Bool.and_eq_true]at c
  obtain⟨a2,C,E⟩:=c
  have Z:i<ops.size:=List.mem_range.1 a2
  have C:b.getD i true=false:=by simpa using C
  have a1:b.getD i false=false:=by rw[←getD_in (by omega)];exact C
  obtain⟨d,s,r⟩:=n i Z C
  obtain⟨oi,A,hd,hh⟩:=(ob u).get r
  subst hd
  rw[A]at E
  simp only[Option.map_some,Option.getD_some]at E
  rw[Array.all_eq_true_iff_forall_mem]at E
  refine wpOp_step A (fun K' a8=>?_)
  refine hh w K' y (fun j H=>?_) (fun v D J T=>?_)
  · -- what it waits for is told
   have a5:b.getD j false=true:=by
    unfold relEdge at H
    rw[A]at H
    simp only[Option.map_some,Option.getD_some,Array.any_eq_true',Bool.and_eq_true,beq_iff_eq]at H
    obtain⟨e,R,F,rfl⟩:=H
    have:=E e R
    rw[F]at this
    simpa using this
   by_cases W:∃d s,(j,d,s)∈L
   ·obtain⟨d2,s2,V⟩:=W
    rw[RelL.of_mem M V]
    obtain⟨h1,h2⟩:=z _ V a5
    exact⟨h1,fun f=>h2 i f a1⟩
   rw[RelL.of_none (fun d s h=>W ⟨d,s,h⟩)]
   exact⟨trivial,fun f=>by cases f⟩
  have X:Ext B D:=by
   rcases J with h|h
   ·exact y.trans h
   exact h.1
  have a3:∀x I,Row1 w x I→Row1 D x I:=by
   rcases J with h|h
   ·exact fun x I t=>t.below h
   exact h.2.1
  refine a8 _ _ ⟨X,?_⟩
  rw[putsR_put v L a M r]
  refine S _ _ _ (by rw[Array.size_setIfInBounds];exact m) (count_less m Z C N) ?_ g X ?_
  ·intro k f l
   rw[getD_set (by omega)]at l
   split at l
   ·cases l
   exact n k f l
  intro x O K
  rw[getD_set (by omega)]at K
  by_cases G:x.1=i
  ·obtain⟨Y,xd,I⟩:=x
   simp only at G
   subst G
   obtain rfl:=RelL.uniq M r O
   rw[show updR u Y v Y=v from if_pos rfl]
   exact⟨T.1,fun k f _=>T.2 (by rw[f];rfl)⟩
  rw[if_neg G]at K
  rw[show updR u i v x.1=u x.1 from if_neg G]
  obtain⟨h1,h2⟩:=z x O K
  refine⟨x.2.2.hp _ _ _ h1 a3,fun k f l=>?_⟩
  have l:(b.setIfInBounds i true).getD k false=false:=l
  rw[getD_set (by omega)]at l
  split at l
  ·cases l
  rename_i a6
  have hq:=h2 k f l
  rcases J with h|h
  ·exact x.2.2.hq _ _ _ hq h
  have:=List.all_eq_true.1 h.2.2 x O
  rw[f]at this
  simp at this
  exact absurd this a6
theorem wpAnyH_rel {B:World} {fuel:Nat} {f:Array Bool} {a:Act} {w:World}(L:RelL)(m:Ext B w)
  (y:∀u,RelOb P md ops Q B L u (putsR u L a) L)
  (z:∀u w,Ext B w→(∀j,(L.of j).p (u j) w∧∀k,(L.of j).k=some k→ops.size≤k→(L.of j).q (u j) w)→Q .normal (putsR u L a) w)
  (g:((List.range ops.size).filter (fun i=>!f.getD i true)==L.map (·.1))=true:=by kernel_rfl) (M:f.size=ops.size:=by kernel_rfl) (I:L.length=fuel:=by rfl) (c:RelL.apart L=true:=by kernel_rfl)
  (H:((L.map (·.1)).all fun i=>((ops[i]?).map fun o=>o.after.all fun e=>!Region.binds md e||decide (e.on<i)).getD false)=true:=by kernel_rfl):
  wpAnyH P md ops Q (fun v=>Ext B v) fuel f a w:=by
 have g:(List.range ops.size).filter (fun i=>!f.getD i true)=L.map (·.1):=by simpa using g
 have l:∀i,i∈L.map (·.1)↔i<ops.size∧f.getD i true=false:=fun i=>by
  rw[←g,List.mem_filter,List.mem_range]
  simp
 have F:∀i,i∈L.map (·.1)→∃d s,(i,d,s)∈L:=fun i h=>by
  obtain⟨⟨T,d,s⟩,b,rfl⟩:=List.mem_map.1 h
  exact⟨d,s,b⟩
 have C:=putsR_self a L (fun i=>match L.find? (fun x=>x.1==i)with|some x=>(match x.2.1 with|some d=>a.tmps.getD d undef|none=>undef)|none=>undef) (fun x b=>by
  obtain⟨i,d,s⟩:=x
  have:L.find? (fun x=>x.1==i)=some (i,d,s):=by
   have h2:∀{L:RelL},RelL.apart L=true→(i,d,s)∈L→L.find? (fun x=>x.1==i)=some (i,d,s):=by
    intro L
    induction L with
    |nil=>intro _ h;cases h
    |cons x r R=>
     intro c h
     unfold RelL.apart at c
     rw[Bool.and_eq_true]at c
     rcases List.mem_cons.1 h with e|e
     ·subst e
      simp
     have S:i≠x.1:=by
      have:=List.all_eq_true.1 c.1 _ e
      simp at this
      exact this.1
     rw[List.find?_cons_of_neg (by simpa using fun G=>S G.symm)]
     exact R c.2 e
   exact h2 c b
  simp only[this])
 rw[←C]
 have J:∀u w,Ext B w→(∀x∈L,x.2.2.p (u x.1) w∧∀k,x.2.2.k=some k→ops.size≤k→x.2.2.q (u x.1) w)→Q .normal (putsR u L a) w:=fun u w m D=>z u w m (fun j=>by
  by_cases n:∃d s,(j,d,s)∈L
  ·obtain⟨d,s,b⟩:=n
   rw[RelL.of_mem c b]
   exact D _ b
  rw[RelL.of_none (fun d s h=>n ⟨d,s,h⟩)]
  exact⟨trivial,fun k N=>by cases N⟩)
 refine rel_go c (fun x b=>?_) y J fuel f _ w M (by rw[g,q100];exact I) (fun i K E=>F i ((l i).2 ⟨K,E⟩)) (fun x b=>((l x.1).1 (List.mem_map.2 ⟨x,b,rfl⟩)).1) m (fun x b t=>?_)
 ·have h:=List.all_eq_true.1 H x.1 (List.mem_map.2 ⟨x,b,rfl⟩)
  cases ho:ops[x.1]? with
  |none=>rw[ho]at h;cases h
  |some o=>
   rw[ho]at h
   simp only[Option.map_some,Option.getD_some]at h
   rw[Array.all_eq_true_iff_forall_mem]at h
   refine⟨o,rfl,fun e O A=>?_⟩
   have:=h e O
   rw[A]at this
   simpa using this
 have h1:=(l x.1).1 (List.mem_map.2 ⟨x,b,rfl⟩)
 rw[getD_in (by omega)]at h1
 rw[h1.2]at t
 cases t
end
end
section
section
variable {P:Program} {ops:Array Oper} {Q:Exit→Act→World→Prop} {o:Oper} {a:Act} {w:World} {K:Act→World→Prop}
theorem ob_assign {d:Option Nat}(x:Operand)(v:Value)(c:K (a.put d v) w)(e:Region.wanted o (yielded ops a.tmps)=true)(g:o.dst=d)(b:o.op=.assign x)(f:a.eval x=v):
  if Region.wanted o (yielded ops a.tmps)=true then o.wp P a w K Q else K (a.put d undef) w:=by
 rw[if_pos e]
 subst g f
 unfold Oper.wp execOp
 simpa[b,Oper.upon]using c
end
end
section
section
variable {P:Program} {md:Region.Mode} {ops:Array Oper} {Q:Exit→Act→World→Prop} {S:World→Prop}
def Fl(P:Program)(md:Region.Mode)(ops:Array Oper)(Q:Exit→Act→World→Prop)(S:World→Prop)(f d:Nat)(zs:List Value)(T:TypeId)(B:Nat)(fuel:Nat)(listed:Array Bool)(a:Act)(w:World):Prop:=
 ∀w',Ext w w'→S w'→wpAnyH P md ops Q S (fuel+1) listed a w'∧
  ∀g,B≤g→Blk w' g zs T→wpAnyH P md ops Q S fuel (listed.setIfInBounds f true) (a.put (some d) (.pointer (some ⟨g,0,none⟩))) w'
theorem set_swap(l:Array Bool) {i j:Nat}(h:i≠j):(l.setIfInBounds i true).setIfInBounds j true=(l.setIfInBounds j true).setIfInBounds i true:=by
 rcases l with⟨l⟩
 simp only[List.setIfInBounds_toArray]
 rw[List.set_comm _ _ h]
theorem put_swap(a:Act) {d:Nat} {e:Option Nat}(h:e≠some d)(u v:Value):(a.put (some d) u).put e v=(a.put e v).put (some d) u:=by
 cases e with
 |none=>rfl
 |some e=>
  have c:e≠d:=fun b=>h (by rw[b])
  unfold Act.put
  simp only
  congr 1
  rcases a.tmps with⟨l⟩
  simp only[List.setIfInBounds_toArray]
  rw[List.set_comm _ _ (Ne.symm c)]
theorem Fl.go {f d:Nat} {zs:List Value} {T:TypeId} {B fuel:Nat} {b:Array Bool} {a:Act} {w:World}(h:Fl P md ops Q S f d zs T B fuel b a w)(c:S w):wpAnyH P md ops Q S (fuel+1) b a w:=(h w (Ext.refl w) c).1
theorem Fl.take {f d:Nat} {zs:List Value} {T:TypeId} {B fuel:Nat} {b:Array Bool} {a:Act} {w:World}(i:Nat)(v:Value) {e:Oper}(q:ops[i]? =some e)(m:∀u,YieldsIf P ops S e v (a.put (some d) u))
  (k:Fl P md ops Q S f d zs T B fuel (b.setIfInBounds i true) (a.put e.dst v) w)
  {n:Value} (y:a.put (some d) n=a:=by rfl) (E:e.dst≠some d:=by decide) (C:i≠f:=by decide) (s:Region.noSelect ops=true:=by kernel_rfl)
  (x:Region.free md ops b i=true:=by kernel_rfl) (z:Region.free md ops (b.setIfInBounds f true) i=true:=by kernel_rfl)
  (F:(Region.ready md ops b).contains i=true:=by kernel_rfl) (A:(Region.ready md ops (b.setIfInBounds f true)).contains i=true:=by kernel_rfl)
  (r:∀(c:List PanicEntry) (a:Act) (w:World),Q (.panic c) (a.put e.dst v) w→Q (.panic c) a w:=by exact fun _ _ _ h=>h):Fl P md ops Q S f d zs T B (fuel+1) b a w:=fun l p j=>by
 refine⟨wpAnyH_take q s x F r (by have:=m n;rwa [y]at this) j (k l p j).1,fun g D t=>?_⟩
 refine wpAnyH_take q s z A r (m _) j ?_
 rw[put_swap a E,set_swap b (Ne.symm C)]
 exact(k l p j).2 g D t
theorem Fl.step {f d:Nat} {zs:List Value} {T:TypeId} {B fuel:Nat} {n:Array Bool} {a:Act} {w:World}(c:Nat) {m of:Oper}(x:ops[c]? =some m)(F:ops[f]? =some of)(K:of.op=.alloc T)(G:of.dst=some d)(J:of.guard=none)
  (U:∀w,(zeroValue T).run P w=.ok (.agg zs.toArray) w) (V:∀w b,S w→Ext w b→S b) (X:∀w,S w→B≤w.heap.size)
  (h:∀(b:World) (u:Value) (k:Act→World→Prop),Ext w b→S b→Shut (∀v l,Ext b l→S l→Fl P md ops Q S f d zs T B fuel (n.setIfInBounds c true) (a.put m.dst v) l→k ((a.put (some d) u).put m.dst v) l)→
   if Region.wanted m (yielded ops (a.put (some d) u).tmps)=true then m.wp P (a.put (some d) u) b k Q else k ((a.put (some d) u).put m.dst undef) b)
  (R:((Region.ready md ops n).all fun j=>j==c||j==f)=true:=by kernel_rfl) (C:(Region.ready md ops n).isEmpty=false:=by kernel_rfl) (I:Region.ready md ops (n.setIfInBounds f true)=[c]:=by kernel_rfl)
  {y:Value} (z:a.put (some d) y=a:=by rfl) (N:m.dst≠some d:=by decide) (O:c≠f:=by decide):Fl P md ops Q S f d zs T B (fuel+1) n a w:=by
 have A:∀b,Ext w b→S b→∀g,B≤g→Blk b g zs T→wpAnyH P md ops Q S (fuel+1) (n.setIfInBounds f true) (a.put (some d) (.pointer (some ⟨g,0,none⟩))) b:=fun b q p g M E=>by
  refine wpAnyH_ready (rs:=[c]) I (by simp) (AllReadyH.cons x (fun k r=>?_) AllReadyH.nil)
  refine h b _ k q p (fun v l s e t=>?_)
  refine r.o _ _ e (fun _=>?_)
  rw[put_swap a N,set_swap n (Ne.symm O)]
  exact(t l (Ext.refl _) e).2 g M (zak E s)
 refine fun b q p=>⟨?_,A b q p⟩
 refine wpAnyH_all rfl (by intro h;rw[h]at C;cases C) (fun i L=>?_)
 have H:i=c∨i=f:=by simpa using List.all_eq_true.1 R i L
 rcases H with rfl|rfl
 ·refine wpOp_step x (fun k r=>?_)
  have D:=h b y k q p (fun v l s e t=>by
   rw[z]
   exact r _ _ ⟨e,(t l (Ext.refl _) e).1⟩)
  rw[z]at D
  exact D
 refine wpOp_step F (fun k r=>?_)
 rw[if_pos (by unfold Region.wanted;rw[J])]
 refine wp_alloc_d (some d) T zs G K U ?_
 have s:Ext b (b.alloc (.cells zs.toArray T)):=Ext.alloc _ _
 have e:=V _ _ p s
 exact r _ _ ⟨e,A _ (q.trans s) e _ (X _ p) (Blk.made _ _ _)⟩
theorem Fl.last {f d:Nat} {zs:List Value} {T:TypeId} {B fuel:Nat} {e:Array Bool} {a:Act} {w:World} {of:Oper}(v:ops[f]? =some of)(l:of.op=.alloc T)(x:of.dst=some d)(r:of.guard=none)
  (q:∀w,(zeroValue T).run P w=.ok (.agg zs.toArray) w) (s:∀w b,S w→Ext w b→S b) (u:∀w,S w→B≤w.heap.size)
  (h:∀(b:World) (g:Nat),Ext w b→S b→B≤g→Blk b g zs T→wpAnyH P md ops Q S fuel (e.setIfInBounds f true) (a.put (some d) (.pointer (some ⟨g,0,none⟩))) b)
  (p:Region.ready md ops e=[f]:=by kernel_rfl):Fl P md ops Q S f d zs T B fuel e a w:=fun b k c=>by
 refine⟨?_,fun g t m=>h b g k c t m⟩
 refine wpAnyH_ready (rs:=[f]) p (by simp) (AllReadyH.cons v (fun y n=>?_) AllReadyH.nil)
 rw[if_pos (by unfold Region.wanted;rw[r])]
 refine wp_alloc_d (some d) T zs x l q ?_
 have j:Ext b (b.alloc (.cells zs.toArray T)):=Ext.alloc _ _
 have i:=s _ _ c j
 exact n.o _ _ i (fun _=>h _ _ (k.trans j) i (u _ c) (Blk.made _ _ _))
end
end
end Go.Proofs.YtgnfdonbholcdaaGreatDoor


