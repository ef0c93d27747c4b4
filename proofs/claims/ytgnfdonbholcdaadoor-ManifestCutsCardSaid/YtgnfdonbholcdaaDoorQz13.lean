/- Lemmas. -/
import Derived.Test.YtgnfdonbholcdaaDoorQz12
namespace Go.Proofs.YtgnfdonbholcdaaDoor
set_option linter.unusedVariables false
set_option maxRecDepth 100000
set_option maxHeartbeats 32000000
set_option linter.unusedSimpArgs false
open Go.RowKit
theorem rExpand_any(iv:Value)(c a:List UInt8)(n:Nat)(w:World)(hk:c.length=32)(hi:Row1 w iv (a.map bval))(am:a.length≤1099511627000)(hn:n≤8160)(hG:GlobK w):
  Calls Tryd.prog 63 #[.agg (c.map bval).toArray,iv,.int .i64 (n:Int)] w fun e w'=>∃x,e=.returned x∧w'.ownsRow w.heap.size 5 1 x n ((hExpand c a n).map bval)∧Below w.heap.size w w':=by
 obtain⟨H,aw,ak,au,bg⟩:=info_parts Tryd.info5
 obtain⟨J,G,s,R,bs,v⟩:=jq6 aw ak au bg hi am
 obtain⟨T,HG,HN⟩:=jq3 hk hG hn
 have n0:(0:Int)≤(n:Int):=Int.natCast_nonneg _
 obtain⟨ai,az⟩:=jq2 (Blk.made w (c.map bval) 23) (Ext.alloc w (.cells (c.map bval).toArray 23))
 have a8:Hid ((w.alloc (.cells (c.map bval).toArray 23)).ownsRow (w.heap.size+1) 5 1 (.slice none 0 0) 0 []):=jh (World.ownsRow_nil _ _ _ _)
 have bk:=jh usome
 clear hi am hk hG hn aw ak au bg
 go_enter Tryd.func63,Tryd.ntmps63
 go_wp2_with fail
 obtain⟨K,b⟩:=nxq w.heap.size
 have bh:=jh b
 rw[←b]at ai a8⊢
 clear b
 go_loopw [7,8,9] (fun x tv ah wr=>∃(j:Nat),ah=.int .i64 (1+(j:Int))∧j≤255∧wr.ownsRow (K+1) 5 1 x (32*j) ((hkAll c a j).map bval)∧Row1 wr tv ((hkT c a j).map bval)∧Blk wr K (c.map bval) 23∧Ext w wr) (fun _ _ ah _=>300 - (intOf ah).toNat)
 case atStart=>exact⟨0,rfl,by omega,by simpa[hkAll]using a8.o,by simpa[hkT]using Row1.nil _,ai.o,az.o⟩
 case round=>
  clear a8 ai az
  obtain⟨j,rfl,hj,ho,ht,ar,hE⟩:=hrel
  have j0:(0:Int)≤(j:Int):=Int.natCast_nonneg _
  obtain⟨HO,HT,Z,O,k,HJ⟩:=jq6 ho ht ar hE (hkT_le c a j) hj
  obtain⟨ax,cx,av,x1,x2,x3,x4⟩:=id (Row1.of_own ho)
  have be:((hkAll c a j).map bval).length=32*j:=by rw[q100,zde]
  rw[be]at av
  subst av
  clear ho ht ar hE x1 x2 x3 x4 be
  by_cases c2:32*j<n
  ·have bn:32*(j:Int)<(n:Int):=by omega
   have bw:((32*j:Nat):Int)<(n:Int):=by omega
   have y:Hid (wr.ownsRow wr.heap.size 5 1 (.slice none 0 0) 0 []):=jh (World.ownsRow_nil _ _ _ _)
   have b5:=jh (bs.o.below O.o)
   go_upto_region 7 with(first|(at_builtin;refine zad rfl _ _ 24 rfl wr.heap.size 5 H (.int .u8 0) 1 Tryd.underlying24 J.o G.o s.o R.o rfl _ _ _ rfl y.o rfl HT.o (zac _) (by have:=k.o;rw[q100];unfold maxLen;omega) (by have:=k.o;rw[q100];omega) (q101 _) ?_;intro v5 w5 ag A)|(at_builtin;refine zad rfl _ _ 24 rfl wr.heap.size 5 H (.int .u8 0) 1 Tryd.underlying24 J.o G.o s.o R.o rfl _ _ _ rfl ag rfl (b5.o.below (show Ext wr w5 from zay (Ext.refl _) y.o (q101 _) A)) (zac _) (by have:=k.o;have:=v.o;simp only[q100];unfold maxLen;omega) (by have:=k.o;have:=v.o;simp only[q100];omega) (show Ext wr w5 from zay (Ext.refl _) y.o (q101 _) A).size ?_;intro P N b7 b0))
   have ap:Hid (Ext wr N):=jh (zay (zay (Ext.refl _) y.o (q101 _) A) ag (q101 _) b0)
   have an:N.ownsRow wr.heap.size 5 1 P ((hkT c a j++a).length) ((hkT c a j++a).map bval):=by
    have h:=b7
    rw[q116,←q104]at h
    simpa only[q100,q102,q111]using h
   have bd:=jh an
   have bf:Hid (bits .and .i64 (1+(j:Int)) 255=(((j+1)%256:Nat):Int)):=jh (by rw[zcl _ (by omega) (by omega)];omega)
   have b6:Hid (IntKind.u8.wrap (((j+1)%256:Nat):Int)=((UInt8.ofNat ((j+1)%256)).toNat:Int)):=jh (by rw[UInt8.toNat_ofNat',IntKind.wrap_u8];omega)
   clear ag A b7 b0 an y b5
   go_cut [11]from 12 to 34 (fun bu wc=>∃g,bu=.pointer (some ⟨g,0,none⟩)∧wr.heap.size≤g∧Blk wc g ((hmac c (hkT c a j++a++[UInt8.ofNat ((j+1)%256)])).map bval) 23∧Ext wr wc)
   case first=>
    have i:=bd.o
    have B0:Ext wr N.drew:=(ap.o).trans (Ext.drew _)
    refine wp_region_held_drew (S:=fun w'=>Ext wr w') (by kernel_rfl) B0 (fun d=>?_)
    have i:=zbi i (Ext.drew _)
    refine tke 0 (.slice (some ⟨K,0,none⟩) 32 32) rfl (zcd _ _ _ _ (.pointer (some ⟨K,0,none⟩)) (.slice (some ⟨K,0,none⟩) 32 32) none none (by rfl) rfl rfl rfl rfl (fun w=>zct Tryd.underlying23 Tryd.sizeOf5 (by omega) _ w)) d ?_
    simp only[nm]
    refine tke 1 P rfl (zba _ (P) (by rfl) rfl rfl) d ?_
    simp only[nm]
    refine tke 2 (.int .i64 (1+(j:Int))) rfl (zba _ (.int .i64 (1+(j:Int))) (by rfl) rfl rfl) d ?_
    simp only[nm]
    refine tke 3 (.int .i64 (((j+1)%256:Nat):Int)) rfl (yi_and .i64 _ _ _ _ _ _ _ bf.o (by rfl) rfl rfl rfl) d ?_
    simp only[nm]
    refine tke 4 (.int .u8 ((UInt8.ofNat ((j+1)%256)).toNat:Int)) rfl (yi_iconv _ _ _ .i64 .u8 _ _ bk.o Tryd.underlying5 b6.o (by rfl) rfl rfl) d ?_
    simp only[nm]
    refine wpAnyH_ready (rs:=[5,8]) (by kernel_rfl) (by simp) (AllReadyH.cons rfl (fun K b=>?_) (AllReadyH.cons rfl (fun K b=>?_) AllReadyH.nil))
    ·refine zan (by rfl) ?_
     refine zbj (some 27) _ _ _ _ rfl rfl #[.int .u8 ((UInt8.ofNat ((j+1)%256)).toNat:Int)] H (.int .u8 0) Tryd.underlying24 J.o G.o (by rw[s.o];decide) (by rw[s.o];decide) (by rw[s.o];kernel_rfl) ?_
     obtain⟨m,D⟩:=nxq (World.alloc N.drew (.cells #[.int .u8 ((UInt8.ofNat ((j+1)%256)).toNat:Int)] 5))
     rw[←D]
     have b1:Ext N.drew m:=by rw[D];exact Ext.alloc _ _
     obtain⟨U,E⟩:=nxq ((N.drew).heap.size)
     rw[←E]
     have i:=zbi i b1
     have r1:Row1 m (.slice (some ⟨U,0,none⟩) 1 1) (([UInt8.ofNat ((j+1)%256)]:List UInt8).map bval):=by rw[D,E];exact Row1.made _ _ _ _ _ _ rfl rfl rfl (by unfold maxLen;omega)
     have o1:World.ownsRow m (wr).heap.size 5 1 (.slice (some ⟨U,0,none⟩) 1 1) 1 (([UInt8.ofNat ((j+1)%256)]:List UInt8).map bval):=by rw[D,E];exact own_made _ _ _ _ _ _ rfl rfl (by unfold maxLen;omega) B0.size
     clear D E
     have L:Ext wr m:=B0.trans b1
     refine b.o _ _ L (fun d=>?_)
     clear b K
     try simp only[nm]
     refine wpAnyH_ready (rs:=[6,8]) (by kernel_rfl) (by simp) (AllReadyH.cons rfl (fun K b=>?_) (AllReadyH.cons rfl (fun K b=>?_) AllReadyH.nil))
     ·refine zan (by rfl) ?_
      refine zbe _ _ 24 rfl (wr).heap.size 5 H (.int .u8 0) 1 Tryd.underlying24 J.o G.o s.o R.o rfl (P) ((hkT c a j++a).length) _ rfl i rfl r1 (zac _) (by have:=v.o;have:=k.o;simp only[q102,q100,q103,q115];unfold maxLen;omega) (by have:=v.o;have:=k.o;simp only[q102,q100,q103,q115];omega) L.size ?_
      intro v2 p bm u
      have q:Ext wr p:=zay L i (q101 _) u
      have z:Row1 p v2 ((((hkT c a j++a)++[UInt8.ofNat ((j+1)%256)])).map bval):=by have h:=Row1.of_own bm;simpa using h
      refine b.o _ _ q (fun d=>?_)
      clear b K
      try simp only[nm]
      refine wpAnyH_ready (rs:=[7,8]) (by kernel_rfl) (by simp) (AllReadyH.cons rfl (fun K b=>?_) (AllReadyH.cons rfl (fun K b=>?_) AllReadyH.nil))
      ·go_simp
       refine(rMac_any _ _ c ((hkT c a j++a)++[UInt8.ofNat ((j+1)%256)]) _ ((zbv (n:=32) Z.o (by rw[q100];exact T.o) (by unfold maxLen;omega)).below q) z (by rw[T.o];omega) (by have:=v.o;have:=k.o;simp only[q102,q103,q115];omega) (HG.o.ext (O.o.trans q))).mono ?_
       rintro e t ⟨rfl,b3⟩
       have z:=z.below b3
       have f:Ext wr t:=q.trans b3
       refine b.o _ _ f (fun d=>?_)
       clear b K
       try simp only[nm]
       refine rdy 8 rfl fun K b=>?_
       refine zan (by rfl) ?_
       refine wp_alloc_d (some 11) _ zero32 rfl rfl Tryd.zeroValue23 ?_
       obtain⟨M,a5⟩:=nxq (World.alloc t (.cells zero32.toArray 23))
       rw[←a5]
       have l:Ext t M:=by rw[a5];exact Ext.alloc _ _
       obtain⟨g4,a4⟩:=nxq ((t).heap.size)
       rw[←a4]
       have z4:Blk M g4 zero32 23:=by rw[a5,a4];exact Blk.made _ _ _
       have l4:(wr).heap.size≤g4:=by rw[a4];exact f.size
       clear a5 a4
       have z:=z.below l
       have B:Ext wr M:=f.trans l
       refine b.o _ _ B (fun d=>?_)
       clear b K
       try simp only[nm]
       refine rdy 9 rfl fun K b=>?_
       refine zan (by rfl) ?_
       refine zaq _ _ _ rfl g4 ((hmac c ((hkT c a j++a)++[UInt8.ofNat ((j+1)%256)])).map bval) rfl rfl _ _ z4 (by rw[q100,zbr _ _];rfl) (zag (zbr _ _)) (zac _) ?_
       intro Y X A
       have C:Ext wr Y:=zab B A l4
       refine b.o _ _ C (fun d=>?_)
       clear b K
       try simp only[nm]
       refine dne ?_
       go_wp2_with fail
       go_meet
       exact⟨_,rfl,l4,X,C⟩
      refine zan (by rfl) ?_
      refine wp_alloc_d (some 11) _ zero32 rfl rfl Tryd.zeroValue23 ?_
      obtain⟨t,a6⟩:=nxq (World.alloc p (.cells zero32.toArray 23))
      rw[←a6]
      have b3:Ext p t:=by rw[a6];exact Ext.alloc _ _
      obtain⟨g3,I⟩:=nxq ((p).heap.size)
      rw[←I]
      have z3:Blk t g3 zero32 23:=by rw[a6,I];exact Blk.made _ _ _
      have l3:(wr).heap.size≤g3:=by rw[I];exact q.size
      clear a6 I
      have z:=z.below b3
      have f:Ext wr t:=q.trans b3
      refine b.o _ _ f (fun d=>?_)
      clear b K
      try simp only[nm]
      refine rdy 7 rfl fun K b=>?_
      go_simp
      refine(rMac_any _ _ c ((hkT c a j++a)++[UInt8.ofNat ((j+1)%256)]) _ ((zbv (n:=32) Z.o (by rw[q100];exact T.o) (by unfold maxLen;omega)).below f) z (by rw[T.o];omega) (by have:=v.o;have:=k.o;simp only[q102,q103,q115];omega) (HG.o.ext (O.o.trans f))).mono ?_
      rintro e M ⟨rfl,l⟩
      have z:=z.below l
      have z3:=z3.below l
      have B:Ext wr M:=f.trans l
      refine b.o _ _ B (fun d=>?_)
      clear b K
      try simp only[nm]
      refine rdy 9 rfl fun K b=>?_
      refine zan (by rfl) ?_
      refine zaq _ _ _ rfl g3 ((hmac c ((hkT c a j++a)++[UInt8.ofNat ((j+1)%256)])).map bval) rfl rfl _ _ z3 (by rw[q100,zbr _ _];rfl) (zag (zbr _ _)) (zac _) ?_
      intro Y X A
      have C:Ext wr Y:=zab B A l3
      refine b.o _ _ C (fun d=>?_)
      clear b K
      try simp only[nm]
      refine dne ?_
      go_wp2_with fail
      go_meet
      exact⟨_,rfl,l3,X,C⟩
     refine zan (by rfl) ?_
     refine wp_alloc_d (some 11) _ zero32 rfl rfl Tryd.zeroValue23 ?_
     obtain⟨p,F⟩:=nxq (World.alloc m (.cells zero32.toArray 23))
     rw[←F]
     have Q:Ext m p:=by rw[F];exact Ext.alloc _ _
     obtain⟨V,u⟩:=nxq ((m).heap.size)
     rw[←u]
     have z2:Blk p V zero32 23:=by rw[F,u];exact Blk.made _ _ _
     have l2:(wr).heap.size≤V:=by rw[u];exact L.size
     have bx:∀r,(P:Value).ownBlock=some r→r<V:=fun r h=>by rw[u];exact(i.lt r h).2
     have c0:∀r,(.slice (some ⟨U,0,none⟩) 1 1:Value).ownBlock=some r→r<V:=fun r h=>by rw[u];exact(o1.lt r h).2
     clear F u
     have r1:=r1.below Q
     have i:=zbi i Q
     have o1:=zbi o1 Q
     have q:Ext wr p:=L.trans Q
     refine b.o _ _ q (fun d=>?_)
     clear b K
     try simp only[nm]
     refine rdy 6 rfl fun K b=>?_
     refine zan (by rfl) ?_
     refine zbe _ _ 24 rfl (wr).heap.size 5 H (.int .u8 0) 1 Tryd.underlying24 J.o G.o s.o R.o rfl (P) ((hkT c a j++a).length) _ rfl i rfl r1 (zac _) (by have:=v.o;have:=k.o;simp only[q102,q100,q103,q115];unfold maxLen;omega) (by have:=v.o;have:=k.o;simp only[q102,q100,q103,q115];omega) q.size ?_
     intro v3 t ab I
     have f:Ext wr t:=zay q i (q101 _) I
     have z2:=z2.grown I (fun e=>absurd (bx _ e) (Nat.lt_irrefl _))
     have W:Row1 t v3 ((((hkT c a j++a)++[UInt8.ofNat ((j+1)%256)])).map bval):=by have h:=Row1.of_own ab;simpa using h
     refine b.o _ _ f (fun d=>?_)
     clear b K
     try simp only[nm]
     refine rdy 7 rfl fun K b=>?_
     go_simp
     refine(rMac_any _ _ c ((hkT c a j++a)++[UInt8.ofNat ((j+1)%256)]) _ ((zbv (n:=32) Z.o (by rw[q100];exact T.o) (by unfold maxLen;omega)).below f) W (by rw[T.o];omega) (by have:=v.o;have:=k.o;simp only[q102,q103,q115];omega) (HG.o.ext (O.o.trans f))).mono ?_
     rintro e M ⟨rfl,l⟩
     have W:=W.below l
     have z2:=z2.below l
     have B:Ext wr M:=f.trans l
     refine b.o _ _ B (fun d=>?_)
     clear b K
     try simp only[nm]
     refine rdy 9 rfl fun K b=>?_
     refine zan (by rfl) ?_
     refine zaq _ _ _ rfl V ((hmac c ((hkT c a j++a)++[UInt8.ofNat ((j+1)%256)])).map bval) rfl rfl _ _ z2 (by rw[q100,zbr _ _];rfl) (zag (zbr _ _)) (zac _) ?_
     intro Y X A
     have C:Ext wr Y:=zab B A l2
     refine b.o _ _ C (fun d=>?_)
     clear b K
     try simp only[nm]
     refine dne ?_
     go_wp2_with fail
     go_meet
     exact⟨_,rfl,l2,X,C⟩
    refine zan (by rfl) ?_
    refine wp_alloc_d (some 11) _ zero32 rfl rfl Tryd.zeroValue23 ?_
    obtain⟨m,D⟩:=nxq (World.alloc N.drew (.cells zero32.toArray 23))
    rw[←D]
    have b1:Ext N.drew m:=by rw[D];exact Ext.alloc _ _
    obtain⟨U,E⟩:=nxq ((N.drew).heap.size)
    rw[←E]
    have z1:Blk m U zero32 23:=by rw[D,E];exact Blk.made _ _ _
    have l1:(wr).heap.size≤U:=by rw[E];exact B0.size
    have bq:∀r,(P:Value).ownBlock=some r→r<U:=fun r h=>by rw[E];exact(i.lt r h).2
    clear D E
    have i:=zbi i b1
    have L:Ext wr m:=B0.trans b1
    refine b.o _ _ L (fun d=>?_)
    clear b K
    try simp only[nm]
    refine rdy 5 rfl fun K b=>?_
    refine zan (by rfl) ?_
    refine zbj (some 27) _ _ _ _ rfl rfl #[.int .u8 ((UInt8.ofNat ((j+1)%256)).toNat:Int)] H (.int .u8 0) Tryd.underlying24 J.o G.o (by rw[s.o];decide) (by rw[s.o];decide) (by rw[s.o];kernel_rfl) ?_
    obtain⟨p,F⟩:=nxq (World.alloc m (.cells #[.int .u8 ((UInt8.ofNat ((j+1)%256)).toNat:Int)] 5))
    rw[←F]
    have Q:Ext m p:=by rw[F];exact Ext.alloc _ _
    obtain⟨V,u⟩:=nxq ((m).heap.size)
    rw[←u]
    have i:=zbi i Q
    have z1:=z1.below Q
    have z:Row1 p (.slice (some ⟨V,0,none⟩) 1 1) (([UInt8.ofNat ((j+1)%256)]:List UInt8).map bval):=by rw[F,u];exact Row1.made _ _ _ _ _ _ rfl rfl rfl (by unfold maxLen;omega)
    have o2:World.ownsRow p (wr).heap.size 5 1 (.slice (some ⟨V,0,none⟩) 1 1) 1 (([UInt8.ofNat ((j+1)%256)]:List UInt8).map bval):=by rw[F,u];exact own_made _ _ _ _ _ _ rfl rfl (by unfold maxLen;omega) L.size
    clear F u
    have q:Ext wr p:=L.trans Q
    refine b.o _ _ q (fun d=>?_)
    clear b K
    try simp only[nm]
    refine rdy 6 rfl fun K b=>?_
    refine zan (by rfl) ?_
    refine zbe _ _ 24 rfl (wr).heap.size 5 H (.int .u8 0) 1 Tryd.underlying24 J.o G.o s.o R.o rfl (P) ((hkT c a j++a).length) _ rfl i rfl z (zac _) (by have:=v.o;have:=k.o;simp only[q102,q100,q103,q115];unfold maxLen;omega) (by have:=v.o;have:=k.o;simp only[q102,q100,q103,q115];omega) q.size ?_
    intro v3 t ab I
    have f:Ext wr t:=zay q i (q101 _) I
    have z1:=z1.grown I (fun e=>absurd (bq _ e) (Nat.lt_irrefl _))
    have W:Row1 t v3 ((((hkT c a j++a)++[UInt8.ofNat ((j+1)%256)])).map bval):=by have h:=Row1.of_own ab;simpa using h
    refine b.o _ _ f (fun d=>?_)
    clear b K
    try simp only[nm]
    refine rdy 7 rfl fun K b=>?_
    go_simp
    refine(rMac_any _ _ c ((hkT c a j++a)++[UInt8.ofNat ((j+1)%256)]) _ ((zbv (n:=32) Z.o (by rw[q100];exact T.o) (by unfold maxLen;omega)).below f) W (by rw[T.o];omega) (by have:=v.o;have:=k.o;simp only[q102,q103,q115];omega) (HG.o.ext (O.o.trans f))).mono ?_
    rintro e M ⟨rfl,l⟩
    have W:=W.below l
    have z1:=z1.below l
    have B:Ext wr M:=f.trans l
    refine b.o _ _ B (fun d=>?_)
    clear b K
    try simp only[nm]
    refine rdy 9 rfl fun K b=>?_
    refine zan (by rfl) ?_
    refine zaq _ _ _ rfl U ((hmac c ((hkT c a j++a)++[UInt8.ofNat ((j+1)%256)])).map bval) rfl rfl _ _ z1 (by rw[q100,zbr _ _];rfl) (zag (zbr _ _)) (zac _) ?_
    intro Y X A
    have C:Ext wr Y:=zab B A l1
    refine b.o _ _ C (fun d=>?_)
    clear b K
    try simp only[nm]
    refine dne ?_
    go_wp2_with fail
    go_meet
    exact⟨_,rfl,l1,X,C⟩
   case rest=>
    obtain⟨g,rfl,br,aa,ae⟩:=hcut
    have bc:hmac c (hkT c a j++a++[UInt8.ofNat ((j+1)%256)])=hkT c a (j+1):=rfl
    rw[bc]at aa
    have aj:Hid ((hkT c a (j+1)).length=32):=jh (hkT_length c a j)
    have aq:=jh (zbv (n:=32) aa (by rw[q100];exact aj.o) (by unfold maxLen;omega))
    have y:Hid (wc.ownsRow wc.heap.size 5 1 (.slice none 0 0) 0 []):=jh (World.ownsRow_nil _ _ _ _)
    obtain⟨ba,ad⟩:=jq2 ae (zbi HO.o ae)
    have bo:Hid (K+1≤wr.heap.size):=jh Z.o.lt
    have a0:Hid (((hkT c a (j+1)).map bval).length=32):=jh (by rw[q100];exact aj.o)
    have c1:Hid (((hkAll c a j).map bval).length=32*j):=jh (by rw[q100,zde])
    clear bc aa br ae ap bd bf b6
    go_upto_region 9 with(at_builtin;refine zad rfl _ _ 24 rfl wc.heap.size 5 H (.int .u8 0) 1 Tryd.underlying24 J.o G.o s.o R.o rfl _ _ _ rfl y.o rfl aq.o (zac _) (by rw[a0.o];unfold maxLen;omega) (by rw[a0.o];omega) (q101 _) ?_;intro v8 w8 a7 al)
    have ac:Hid (Ext wc w8):=jh (zay (Ext.refl _) y.o (q101 _) al)
    rw[q116,a0.o]at a7
    obtain⟨bj,af,b8⟩:=jq3 a7 (zbi ad.o ac.o) (Row1.of_own a7)
    have bp:Hid (K+1≤w8.heap.size):=jh (q118 bo.o (ba.o.trans ac.o).size)
    have b9:=xxt ba ac.o
    have bb:Hid (∀r,(Value.slice ax (32*j) cx).ownBlock=some r→r<wc.heap.size):=jh (fun r h=>(ad.o.lt r h).2)
    have bv:Hid (∀r,(Value.slice ax (32*j) cx).ownBlock=some r→v8.ownBlock≠some r):=jh (fun r h=>Row1.own_ne bj.o (bb.o r h))
    clear a7 al y aq ad bb
    go_wp2_with (at_builtin;refine zad rfl _ _ 24 rfl (K+1) 5 H (.int .u8 0) 1 Tryd.underlying24 J.o G.o s.o R.o rfl _ _ _ rfl af.o rfl b8.o (zac _) (by have:=HJ.o;rw[a0.o];unfold maxLen;omega) (by have:=HJ.o;rw[a0.o];omega) bp.o ?_;intro v9 w9 a2 a1)
    go_roundw
    case rel=>
     have bz:(Value.slice ax (32*j) cx).ownBlock≠some K:=fun e=>by have:=(af.o.lt K e).1;omega
     have bl:Ext w w9:=zay (O.o.trans b9.o) af.o (by rw[←bh.o];omega) a1
     refine⟨j+1,by go_num,by have:=HN.o;omega,?_,b8.o.grown a1 (fun r h=>bv.o r h),(Z.o.below b9.o).grown a1 bz,bl⟩
     have e1:(hkAll c a (j+1)).map bval=(hkAll c a j).map bval++(hkT c a (j+1)).map bval:=by rw[hkAll,q104]
     rw[e1]
     have h:=a2
     rw[a0.o]at h
     exact h
    case measure=>simp[intOf];omega
  have bn:(n:Int)≤32*(j:Int):=by omega
  have bw:¬((32*j:Nat):Int)<(n:Int):=by omega
  obtain⟨vx,a3,c3⟩:=row_upto Tryd.underlying24 Tryd.sizeOf5 (Row1.of_own HO.o) n (by rw[q100,zde];omega)
  have bt:((hkAll c a j).map bval).length=32*j:=by rw[q100,zde]
  have ao:((hkAll c a j).map bval).take n=(hExpand c a n).map bval:=by rw[←List.map_take,hkAll_take c a j (by omega)]
  rw[ao]at a3
  have bi:=jh a3
  obtain⟨ay,ny,cy,rfl⟩:=row_form2 a3
  have y:Hid (wr.ownsRow wr.heap.size 5 1 (.slice none 0 0) 0 []):=jh (World.ownsRow_nil _ _ _ _)
  have a9:Hid (((hExpand c a n).map bval).length=n):=jh (by rw[q100,zax])
  clear a3 ao bt HO HT Z
  go_wp2_with (at_builtin;refine zad rfl _ _ 24 rfl wr.heap.size 5 H (.int .u8 0) 1 Tryd.underlying24 J.o G.o s.o R.o rfl _ _ _ rfl y.o rfl bi.o (zac _) (by have:=HN.o;rw[a9.o];unfold maxLen;omega) (by have:=HN.o;rw[a9.o];omega) (q101 _) ?_;intro v9 w9 a2 a1)
  go_ret
  refine⟨_,rfl,?_,zay O.o (zce y.o O.o.size) (q101 _) a1⟩
  rw[q116,a9.o,q111]at a2
  exact zce a2 O.o.size
theorem rExtract_any(g d:Value)(k m:List UInt8)(w:World)(p:Row1 w g (k.map bval))(l:Row1 w d (m.map bval))(D:k.length≤1099511627776)(s:m.length≤1099511627712)(n:GlobK w):
  Calls Tryd.prog 64 #[g,d] w fun e C=>e=.returned (.agg ((hmac k m).map bval).toArray)∧Below w.heap.size w C:=by
 obtain⟨r,B,z,h,a⟩:=jq5 p l n (Blk.made w (ints .u8 (List.replicate 32 0)) 23) (Ext.alloc w (.cells (ints .u8 (List.replicate 32 0)).toArray 23))
 clear p l n
 go_enter Tryd.func64,Tryd.ntmps64
 go_upto_region 1 with(fail)
 change Code.wp _ _ _ _ (w.alloc (.cells (ints .u8 (List.replicate 32 0)).toArray 23))
 generalize q:w.alloc (.cells (ints .u8 (List.replicate 32 0)).toArray 23)=t at*
 clear q
 go_wp2_with fail
 refine(rMac_any g d k m t (r.o.below a.o) (B.o.below a.o) D s (z.o.ext a.o)).mono ?_
 rintro e F ⟨rfl,f⟩
 have x:=xxt a f
 have A:=jh (h.o.same (f.block _ h.o.lt))
 obtain⟨b,c⟩:=nxq (hmac k m)
 rw[←c]
 have i:Hid (b.length=32):=jh (by rw[c];exact zbr _ _)
 have E:=jh c
 clear c f
 have j:Hid ((Tryd.prog.info? 23).map (·.size)=some (b.map bval).length):=jh (zag i.o)
 have y:Hid ((b.map bval).length=(ints .u8 (List.replicate 32 0)).length):=jh (by rw[q100,i.o,zaa,q110])
 go_wp2_with (refine ssb w.heap.size (b.map bval) A.o y.o j.o (zac _) ?_;intro G u v)
 refine bodyPost_ret (zat rfl _ w.heap.size _ _ _ _ rfl u Tryd.underlying23 j.o) rfl ?_
 exact⟨by rw[E.o],zab x.o v (q101 _)⟩
theorem rwra_nonce(w:World):(Instr.build 97 #[]).run Tryd.prog w=.ok (.agg ((zB 12).map bval).toArray) w:=by
 simp[Instr.build,Tryd.zeroValue97]
 rfl
theorem rwra_any(b c:List UInt8)(w:World)(he:b.length=32)(hz:c.length=32)(hG:GlobK w):
  Calls Tryd.prog 45 #[.agg (b.map bval).toArray,.agg (c.map bval).toArray] w fun e w'=>e=.returned (.agg ((betK b c).map bval).toArray)∧Below w.heap.size w w':=by
 obtain⟨i0,hi,ad,af,al⟩:=info_parts Tryd.info5
 obtain⟨ak,ag,N,ar,HB,J⟩:=jq6 hi ad af al (boxes3 w (b.map bval) (c.map bval) ((zB 32).map bval) 23 23 23) hG
 obtain⟨M,O⟩:=jq2 he hz
 clear he hz hG hi ad af al
 go_enter Tryd.func45,Tryd.ntmps45
 go_upto_region 2 with(fail)
 obtain⟨L,Q,R,HE⟩:=HB.o
 change Code.wp _ _ _ _ ((((w.alloc (.cells (b.map bval).toArray 23)).alloc (.cells (c.map bval).toArray 23)).alloc (.cells ((zB 32).map bval).toArray 23)).alloc (.cells ((zB 32).map bval).toArray 23))
 have ab:Hid ((((w.alloc (.cells (b.map bval).toArray 23)).alloc (.cells (c.map bval).toArray 23)).alloc (.cells ((zB 32).map bval).toArray 23)).heap.size=w.heap.size+1+1+1):=jh (by simp)
 generalize ((w.alloc (.cells (b.map bval).toArray 23)).alloc (.cells (c.map bval).toArray 23)).alloc (.cells ((zB 32).map bval).toArray 23)=f at*
 have an:Hid (Ext f (f.alloc (.cells ((zB 32).map bval).toArray 23))):=jh (Ext.alloc _ _)
 have ah:=jh (Blk.made f ((zB 32).map bval) 23)
 generalize f.alloc (.cells ((zB 32).map bval).toArray 23)=W at*
 obtain⟨j,a5⟩:=nxq (w.heap.size+1+1+1)
 have x:=ah.o
 rw[ab.o,←a5]at x
 have aq:=jh x
 have a9:Hid (f.heap.size≤j):=jh (by rw[ab.o,a5];omega)
 have z:Hid (Ext w f):=jh HE
 rw[←a5]
 clear x a5 ab ah HE
 obtain⟨A,hA⟩:=nxq w.heap.size
 have a7:Hid (w.heap.size≤A+1+1):=jh (by omega)
 rw[←hA]at L Q R⊢
 obtain⟨L,Q,R⟩:=jq3 L Q R
 clear hA HB
 have d:=aq.o
 have I:Ext f W.drew:=(an.o).trans (Ext.drew _)
 refine wp_region_held_drew (S:=fun w'=>Ext f w') (by kernel_rfl) I (fun g=>?_)
 have d:=d.below (Ext.drew _)
 refine tke 0 (.slice (some ⟨j,0,none⟩) 32 32) rfl (zcd _ _ _ _ (.pointer (some ⟨j,0,none⟩)) (.slice (some ⟨j,0,none⟩) 32 32) none none (by rfl) rfl rfl rfl rfl (fun w=>zct Tryd.underlying23 Tryd.sizeOf5 (by omega) _ w)) g ?_
 simp only[nm]
 refine tke 1 (.slice (some ⟨A,0,none⟩) 32 32) rfl (zcd _ _ _ _ (.pointer (some ⟨A,0,none⟩)) (.slice (some ⟨A,0,none⟩) 32 32) none none (by rfl) rfl rfl rfl rfl (fun w=>zct Tryd.underlying23 Tryd.sizeOf5 (by omega) _ w)) g ?_
 simp only[nm]
 refine tke 2 (.slice (some ⟨A+1,0,none⟩) 32 32) rfl (zcd _ _ _ _ (.pointer (some ⟨A+1,0,none⟩)) (.slice (some ⟨A+1,0,none⟩) 32 32) none none (by rfl) rfl rfl rfl rfl (fun w=>zct Tryd.underlying23 Tryd.sizeOf5 (by omega) _ w)) g ?_
 simp only[nm]
 refine wpAnyH_ready (rs:=[3,4]) (by kernel_rfl) (by simp) (AllReadyH.cons rfl (fun K a=>?_) (AllReadyH.cons rfl (fun K a=>?_) AllReadyH.nil))
 ·go_simp
  refine(rExtract_any _ _ b c W.drew ((zbv (n:=32) L.o (by rw[q100];exact M.o) (by unfold maxLen;omega)).below I) ((zbv (n:=32) Q.o (by rw[q100];exact O.o) (by unfold maxLen;omega)).below I) (by rw[M.o];decide) (by rw[O.o];decide) (J.o.ext (z.o.trans I))).mono ?_
  rintro e v ⟨rfl,b1⟩
  have d:=d.below b1
  have u:Ext f v:=I.trans b1
  refine a.o _ _ u (fun g=>?_)
  clear a K
  try simp only[nm]
  refine rdy 4 rfl fun K a=>?_
  refine zan (by rfl) ?_
  refine zbj (some 10) _ _ _ _ rfl rfl #[.int .u8 119,.int .u8 114,.int .u8 97,.int .u8 112] i0 (.int .u8 0) Tryd.underlying24 ak.o ag.o (by rw[N.o];decide) (by rw[N.o];decide) (by rw[N.o];kernel_rfl) ?_
  obtain⟨y,Z⟩:=nxq (World.alloc v (.cells #[.int .u8 119,.int .u8 114,.int .u8 97,.int .u8 112] 5))
  rw[←Z]
  have H:Ext v y:=by rw[Z];exact Ext.alloc _ _
  obtain⟨g2,a6⟩:=nxq ((v).heap.size)
  rw[←a6]
  have d:=d.below H
  have r2:Row1 y (.slice (some ⟨g2,0,none⟩) 4 4) (([119,114,97,112]:List UInt8).map bval):=by rw[Z,a6];exact Row1.made _ _ _ _ _ _ rfl rfl rfl (by unfold maxLen;omega)
  have o2:World.ownsRow y (f).heap.size 5 1 (.slice (some ⟨g2,0,none⟩) 4 4) 4 (([119,114,97,112]:List UInt8).map bval):=by rw[Z,a6];exact own_made _ _ _ _ _ _ rfl rfl (by unfold maxLen;omega) u.size
  clear Z a6
  have q:Ext f y:=u.trans H
  have q2:g2≠j:=own_ne_blk o2 d (by decide)
  refine a.o _ _ q (fun g=>?_)
  clear a K
  try simp only[nm]
  refine rdy 5 rfl fun K a=>?_
  obtain⟨m3,aa,U,a8,ac⟩:=zdu (P:=Tryd.prog) (t:=24) Tryd.underlying24 Tryd.underlying5 o2
  refine zan (by rfl) ?_
  refine wp_conv_d (some 11) _ _ _ _ _ _ rfl rfl rfl aa ?_
  have r2:=ac _ _ r2
  have d:=d.grown U (fun e=>q2 (Option.some.inj e))
  have l:Ext f m3:=zab q U a8
  refine a.o _ _ l (fun g=>?_)
  clear a K
  try simp only[nm]
  refine rdy 6 rfl fun K a=>?_
  go_simp
  refine(rExpand_any _ (hmac b c) wraN 32 _ (zbr _ _) r2 (by decide) (by omega) (J.o.ext (z.o.trans l))).mono ?_
  rintro e G ⟨x4,rfl,X,m⟩
  have r2:=r2.below m
  have d:=d.below m
  have E:Row1 G x4 ((hExpand (hmac b c) wraN 32).map bval):=Row1.of_own X
  obtain⟨a4,c4,B,_⟩:=id E
  rw[show ((hExpand (hmac b c) wraN 32).map bval).length=32 from by rw[q100];simp only[zax]]at B
  subst B
  have D:Ext f G:=l.trans m
  refine a.o _ _ D (fun g=>?_)
  clear a K
  try simp only[nm]
  refine rdy 7 rfl fun K a=>?_
  refine zan (by rfl) ?_
  refine zcf _ _ 24 24 rfl 5 Tryd.underlying24 one_u8 _ _ _ _ _ _ rfl rfl j 0 _ _ d ((hExpand (hmac b c) wraN 32).map bval) (by rw[q100];simp only[zax];rfl) (fun h=>⟨rfl,row_src E (hExpand (hmac b c) wraN 32) (by rw[q125]) (q101 _) (Ext.refl _) h⟩) (by rw[q100];simp only[zax];decide) (zac _) ?_
  intro C x a1
  have F:Ext f C:=zab D a1 a9.o
  refine a.o _ _ F (fun g=>?_)
  clear a K
  try simp only[nm]
  refine dne ?_
  have s:=x
  have k:=F
  generalize C=aj at s k⊢
  have r:=splice_zeros 32 (hExpand (hmac b c) wraN 32)
  rw[show List.replicate (32 - (hExpand (hmac b c) wraN 32).length) (0:UInt8)=[]from by rw[zax];rfl,q123]at r
  rw[r]at s
  have a2:=jh (R.o.below k)
  have p:Hid ((Tryd.prog.info? 23).map (·.size)=some ((hExpand (hmac b c) wraN 32).map bval).length):=jh (zag (zax _ _ _))
  have V:Hid (((hExpand (hmac b c) wraN 32).map bval).length=((zB 32).map bval).length):=jh (by rw[q100,q100,zax,zB_length])
  clear r
  go_wp2_with (first|(refine slb j s Tryd.underlying23 p.o ?_)|(refine ssb (A+1+1) ((hExpand (hmac b c) wraN 32).map bval) a2.o V.o p.o (zac _) ?_;intro ae Y a0))
  refine bodyPost_ret (zat rfl _ (A+1+1) _ _ _ _ rfl Y Tryd.underlying23 p.o) rfl ?_
  exact⟨rfl,zab (z.o.trans k) a0 a7.o⟩
 refine zan (by rfl) ?_
 refine zbj (some 10) _ _ _ _ rfl rfl #[.int .u8 119,.int .u8 114,.int .u8 97,.int .u8 112] i0 (.int .u8 0) Tryd.underlying24 ak.o ag.o (by rw[N.o];decide) (by rw[N.o];decide) (by rw[N.o];kernel_rfl) ?_
 obtain⟨v,T⟩:=nxq (World.alloc W.drew (.cells #[.int .u8 119,.int .u8 114,.int .u8 97,.int .u8 112] 5))
 rw[←T]
 have b1:Ext W.drew v:=by rw[T];exact Ext.alloc _ _
 obtain⟨g1,a3⟩:=nxq ((W.drew).heap.size)
 rw[←a3]
 have d:=d.below b1
 have i:Row1 v (.slice (some ⟨g1,0,none⟩) 4 4) (([119,114,97,112]:List UInt8).map bval):=by rw[T,a3];exact Row1.made _ _ _ _ _ _ rfl rfl rfl (by unfold maxLen;omega)
 have o1:World.ownsRow v (f).heap.size 5 1 (.slice (some ⟨g1,0,none⟩) 4 4) 4 (([119,114,97,112]:List UInt8).map bval):=by rw[T,a3];exact own_made _ _ _ _ _ _ rfl rfl (by unfold maxLen;omega) I.size
 clear T a3
 have u:Ext f v:=I.trans b1
 have q1:g1≠j:=own_ne_blk o1 d (by decide)
 refine a.o _ _ u (fun g=>?_)
 clear a K
 try simp only[nm]
 refine wpAnyH_ready (rs:=[3,5]) (by kernel_rfl) (by simp) (AllReadyH.cons rfl (fun K a=>?_) (AllReadyH.cons rfl (fun K a=>?_) AllReadyH.nil))
 ·go_simp
  refine(rExtract_any _ _ b c v ((zbv (n:=32) L.o (by rw[q100];exact M.o) (by unfold maxLen;omega)).below u) ((zbv (n:=32) Q.o (by rw[q100];exact O.o) (by unfold maxLen;omega)).below u) (by rw[M.o];decide) (by rw[O.o];decide) (J.o.ext (z.o.trans u))).mono ?_
  rintro e y ⟨rfl,H⟩
  have i:=i.below H
  have o1:=zbi o1 H
  have d:=d.below H
  have q:Ext f y:=u.trans H
  refine a.o _ _ q (fun g=>?_)
  clear a K
  try simp only[nm]
  refine rdy 5 rfl fun K a=>?_
  obtain⟨m3,aa,U,a8,ac⟩:=zdu (P:=Tryd.prog) (t:=24) Tryd.underlying24 Tryd.underlying5 o1
  refine zan (by rfl) ?_
  refine wp_conv_d (some 11) _ _ _ _ _ _ rfl rfl rfl aa ?_
  have i:=ac _ _ i
  have d:=d.grown U (fun e=>q1 (Option.some.inj e))
  have l:Ext f m3:=zab q U a8
  refine a.o _ _ l (fun g=>?_)
  clear a K
  try simp only[nm]
  refine rdy 6 rfl fun K a=>?_
  go_simp
  refine(rExpand_any _ (hmac b c) wraN 32 _ (zbr _ _) i (by decide) (by omega) (J.o.ext (z.o.trans l))).mono ?_
  rintro e G ⟨x4,rfl,X,m⟩
  have i:=i.below m
  have d:=d.below m
  have E:Row1 G x4 ((hExpand (hmac b c) wraN 32).map bval):=Row1.of_own X
  obtain⟨a4,c4,B,_⟩:=id E
  rw[show ((hExpand (hmac b c) wraN 32).map bval).length=32 from by rw[q100];simp only[zax]]at B
  subst B
  have D:Ext f G:=l.trans m
  refine a.o _ _ D (fun g=>?_)
  clear a K
  try simp only[nm]
  refine rdy 7 rfl fun K a=>?_
  refine zan (by rfl) ?_
  refine zcf _ _ 24 24 rfl 5 Tryd.underlying24 one_u8 _ _ _ _ _ _ rfl rfl j 0 _ _ d ((hExpand (hmac b c) wraN 32).map bval) (by rw[q100];simp only[zax];rfl) (fun h=>⟨rfl,row_src E (hExpand (hmac b c) wraN 32) (by rw[q125]) (q101 _) (Ext.refl _) h⟩) (by rw[q100];simp only[zax];decide) (zac _) ?_
  intro C x a1
  have F:Ext f C:=zab D a1 a9.o
  refine a.o _ _ F (fun g=>?_)
  clear a K
  try simp only[nm]
  refine dne ?_
  have s:=x
  have k:=F
  generalize C=aj at s k⊢
  have r:=splice_zeros 32 (hExpand (hmac b c) wraN 32)
  rw[show List.replicate (32 - (hExpand (hmac b c) wraN 32).length) (0:UInt8)=[]from by rw[zax];rfl,q123]at r
  rw[r]at s
  have a2:=jh (R.o.below k)
  have p:Hid ((Tryd.prog.info? 23).map (·.size)=some ((hExpand (hmac b c) wraN 32).map bval).length):=jh (zag (zax _ _ _))
  have V:Hid (((hExpand (hmac b c) wraN 32).map bval).length=((zB 32).map bval).length):=jh (by rw[q100,q100,zax,zB_length])
  clear r
  go_wp2_with (first|(refine slb j s Tryd.underlying23 p.o ?_)|(refine ssb (A+1+1) ((hExpand (hmac b c) wraN 32).map bval) a2.o V.o p.o (zac _) ?_;intro ae Y a0))
  refine bodyPost_ret (zat rfl _ (A+1+1) _ _ _ _ rfl Y Tryd.underlying23 p.o) rfl ?_
  exact⟨rfl,zab (z.o.trans k) a0 a7.o⟩
 obtain⟨y,ao,ai,am,ap⟩:=zdu (P:=Tryd.prog) (t:=24) Tryd.underlying24 Tryd.underlying5 o1
 refine zan (by rfl) ?_
 refine wp_conv_d (some 11) _ _ _ _ _ _ rfl rfl rfl ao ?_
 have i:=ap _ _ i
 have d:=d.grown ai (fun e=>q1 (Option.some.inj e))
 have q:Ext f y:=zab u ai am
 refine a.o _ _ q (fun g=>?_)
 clear a K
 try simp only[nm]
 refine rdy 3 rfl fun K a=>?_
 go_simp
 refine(rExtract_any _ _ b c y ((zbv (n:=32) L.o (by rw[q100];exact M.o) (by unfold maxLen;omega)).below q) ((zbv (n:=32) Q.o (by rw[q100];exact O.o) (by unfold maxLen;omega)).below q) (by rw[M.o];decide) (by rw[O.o];decide) (J.o.ext (z.o.trans q))).mono ?_
 rintro e m3 ⟨rfl,b3⟩
 have i:=i.below b3
 have d:=d.below b3
 have l:Ext f m3:=q.trans b3
 refine a.o _ _ l (fun g=>?_)
 clear a K
 try simp only[nm]
 refine rdy 6 rfl fun K a=>?_
 go_simp
 refine(rExpand_any _ (hmac b c) wraN 32 _ (zbr _ _) i (by decide) (by omega) (J.o.ext (z.o.trans l))).mono ?_
 rintro e G ⟨x4,rfl,X,m⟩
 have i:=i.below m
 have d:=d.below m
 have E:Row1 G x4 ((hExpand (hmac b c) wraN 32).map bval):=Row1.of_own X
 obtain⟨a4,c4,B,_⟩:=id E
 rw[show ((hExpand (hmac b c) wraN 32).map bval).length=32 from by rw[q100];simp only[zax]]at B
 subst B
 have D:Ext f G:=l.trans m
 refine a.o _ _ D (fun g=>?_)
 clear a K
 try simp only[nm]
 refine rdy 7 rfl fun K a=>?_
 refine zan (by rfl) ?_
 refine zcf _ _ 24 24 rfl 5 Tryd.underlying24 one_u8 _ _ _ _ _ _ rfl rfl j 0 _ _ d ((hExpand (hmac b c) wraN 32).map bval) (by rw[q100];simp only[zax];rfl) (fun h=>⟨rfl,row_src E (hExpand (hmac b c) wraN 32) (by rw[q125]) (q101 _) (Ext.refl _) h⟩) (by rw[q100];simp only[zax];decide) (zac _) ?_
 intro C x a1
 have F:Ext f C:=zab D a1 a9.o
 refine a.o _ _ F (fun g=>?_)
 clear a K
 try simp only[nm]
 refine dne ?_
 have s:=x
 have k:=F
 generalize C=aj at s k⊢
 have r:=splice_zeros 32 (hExpand (hmac b c) wraN 32)
 rw[show List.replicate (32 - (hExpand (hmac b c) wraN 32).length) (0:UInt8)=[]from by rw[zax];rfl,q123]at r
 rw[r]at s
 have a2:=jh (R.o.below k)
 have p:Hid ((Tryd.prog.info? 23).map (·.size)=some ((hExpand (hmac b c) wraN 32).map bval).length):=jh (zag (zax _ _ _))
 have V:Hid (((hExpand (hmac b c) wraN 32).map bval).length=((zB 32).map bval).length):=jh (by rw[q100,q100,zax,zB_length])
 clear r
 go_wp2_with (first|(refine slb j s Tryd.underlying23 p.o ?_)|(refine ssb (A+1+1) ((hExpand (hmac b c) wraN 32).map bval) a2.o V.o p.o (zac _) ?_;intro ae Y a0))
 refine bodyPost_ret (zat rfl _ (A+1+1) _ _ _ _ rfl Y Tryd.underlying23 p.o) rfl ?_
 exact⟨rfl,zab (z.o.trans k) a0 a7.o⟩
theorem rWrap_any(a b key:List UInt8)(w:World)(ht:a.length=32)(Q:b.length=32)(hk:key.length=32)(hG:GlobK w):
  Calls Tryd.prog 23 #[.agg (a.map bval).toArray,.agg (b.map bval).toArray,.agg (key.map bval).toArray] w fun e H=>∃x,e=.returned (.tuple #[x,.int .i64 (shErr b a)])∧Row1 H x ((wraL a b key).map bval)∧Below w.heap.size w H:=by
 obtain⟨i0,hi,a5,aa,ak⟩:=info_parts Tryd.info5
 obtain⟨aj,ae,ad,a6,HB,HG⟩:=jq6 hi a5 aa ak (boxes3 w (a.map bval) (b.map bval) (key.map bval) 23 23 23) hG
 obtain⟨U,ah,B,aq,ac,ar⟩:=jq6 ht Q hk (zag ht) (zag Q) (zag hk)
 clear ht Q hk hG hi a5 aa ak
 go_enter Tryd.func23,Tryd.ntmps23
 go_upto_region 1 with(fail)
 obtain⟨d,k,i,f⟩:=HB.o
 change Code.wp _ _ _ _ (((w.alloc (.cells (a.map bval).toArray 23)).alloc (.cells (b.map bval).toArray 23)).alloc (.cells (key.map bval).toArray 23))
 generalize ((w.alloc (.cells (a.map bval).toArray 23)).alloc (.cells (b.map bval).toArray 23)).alloc (.cells (key.map bval).toArray 23)=wa at*
 obtain⟨A,hA⟩:=nxq w.heap.size
 have au:Hid (w.heap.size≤A):=jh (by omega)
 rw[←hA]at d k i⊢
 obtain⟨d,k,i⟩:=jq3 d k i
 have f:Hid (Ext w wa):=jh f
 clear hA HB
 have r:Hid (wraL a b key=if ladB b a=zer then[]else pubB b++sealB (betK (pubB b) (ladB b a)) (zB 12) key a):=jh rfl
 have HP:=jh (rladpub_any b wa ah.o)
 have l:Hid ((pubB b).length=32):=jh (pubB_length _)
 obtain⟨e,he⟩:=nxq (pubB b)
 rw[←he]at HP l r
 clear he
 have ab:=jh (zag l.o)
 have am:Hid ((e.map bval).length=(ints .u8 (List.replicate 32 0)).length):=jh (by rw[q100,zaa,l.o];rfl)
 go_wp2_with (first|(refine slb (A+1) k.o Tryd.underlying23 ac.o ?_))
 refine HP.o.mono ?_
 rintro ex L ⟨rfl,q⟩
 obtain⟨d,k,i⟩:=xq3 d k i q
 have f:=xxt f q
 clear q HP
 obtain⟨D,v⟩:=jq2 (Blk.made L (ints .u8 (List.replicate 32 0)) 23) (Ext.alloc L (.cells (ints .u8 (List.replicate 32 0)).toArray 23))
 go_upto_region 2 with(refine ssb L.heap.size (e.map bval) D.o am.o ab.o (zac _) ?_;intro w7 a9 F)
 have p:=jh (zab v.o F (q101 _))
 obtain⟨d,k,i⟩:=xq3 d k i p.o
 have f:=xxt f p.o
 have t:=jh a9
 generalize L.heap.size=E at*
 clear a9 F D v p
 have I:=jh (rshared_any b a w7 ah.o U.o)
 have a0:Hid ((ladB b a).length=32):=jh (ladB_length _ _)
 have s:Hid (shErr b a=if ladB b a=zer then 21 else 0):=jh rfl
 obtain⟨z,m⟩:=nxq (ladB b a)
 rw[←m]at I a0 r s
 have W:=a0
 obtain⟨er,X⟩:=nxq (shErr b a)
 rw[←X]at I s
 obtain⟨ai,a2⟩:=jq2 X (zag W.o)
 have al:Hid ((z.map bval).length=(ints .u8 (List.replicate 32 0)).length):=jh (by rw[q100,zaa,W.o];rfl)
 clear m X a0
 go_wp2_with (first|(refine slb (A) d.o Tryd.underlying23 aq.o ?_)|(refine slb (A+1) k.o Tryd.underlying23 ac.o ?_))
 refine I.o.mono ?_
 rintro ex G ⟨rfl,q⟩
 obtain⟨d,i,t⟩:=xq3 d i t q
 have f:=xxt f q
 clear q I k
 obtain⟨D,v⟩:=jq2 (Blk.made G (ints .u8 (List.replicate 32 0)) 23) (Ext.alloc G (.cells (ints .u8 (List.replicate 32 0)).toArray 23))
 go_upto_region 3 with(refine ssb G.heap.size (z.map bval) D.o al.o a2.o (zac _) ?_;intro j a4 ag)
 have p:=jh (zab v.o ag (q101 _))
 obtain⟨d,i,t⟩:=xq3 d i t p.o
 have f:=xxt f p.o
 have ao:=jh a4
 generalize G.heap.size=Z at*
 clear a4 ag D v p
 by_cases m:z=zer
 ·have C:Hid (er=21):=jh (by rw[s.o,if_pos m])
  have R:Hid (wraL a b key=[]):=jh (by rw[r.o,if_pos m])
  clear m s r
  rw[C.o]
  go_wp2_with fail
  refine bodyPost_ret (res_two rfl _ _) rfl ?_
  exact⟨_,by rw[←ai.o,C.o];rfl,by rw[R.o];exact Row1.nil _,f.o⟩
 have C:Hid (er=0):=jh (by rw[s.o,if_neg m])
 have R:Hid (wraL a b key=e++sealB (betK e z) (zB 12) key a):=jh (by rw[r.o,if_neg m])
 clear m s r
 rw[C.o]
 go_upto_region 5 with(fail)
 have N:Ext j j.drew:=Ext.drew _
 refine wp_region_held_drew (S:=fun H=>Ext j H) (by kernel_rfl) N (fun g=>?_)
 refine tke 0 (.slice (some ⟨E,0,none⟩) 32 32) rfl (zcd _ _ _ _ (.pointer (some ⟨E,0,none⟩)) (.slice (some ⟨E,0,none⟩) 32 32) none none (by rfl) rfl rfl rfl rfl (fun w=>zct Tryd.underlying23 Tryd.sizeOf5 (by omega) _ w)) g ?_
 simp only[nm]
 refine tke 2 (.agg ((e).map bval).toArray) rfl (sld E 0 (fun w h=>zau t.o h) Tryd.underlying23 ab.o) g ?_
 simp only[nm]
 refine tke 3 (.agg ((z).map bval).toArray) rfl (sld Z 0 (fun w h=>zau ao.o h) Tryd.underlying23 a2.o) g ?_
 simp only[nm]
 refine tke 5 (.agg ((zB 12).map bval).toArray) rfl (yi_build _ _ _ _ rwra_nonce (by rfl) rfl (by simp)) g ?_
 simp only[nm]
 refine tke 6 (.slice (some ⟨A+1+1,0,none⟩) 32 32) rfl (zcd _ _ _ _ (.pointer (some ⟨A+1+1,0,none⟩)) (.slice (some ⟨A+1+1,0,none⟩) 32 32) none none (by rfl) rfl rfl rfl rfl (fun w=>zct Tryd.underlying23 Tryd.sizeOf5 (by omega) _ w)) g ?_
 simp only[nm]
 refine tke 7 (.slice (some ⟨A,0,none⟩) 32 32) rfl (zcd _ _ _ _ (.pointer (some ⟨A,0,none⟩)) (.slice (some ⟨A,0,none⟩) 32 32) none none (by rfl) rfl rfl rfl rfl (fun w=>zct Tryd.underlying23 Tryd.sizeOf5 (by omega) _ w)) g ?_
 simp only[nm]
 refine rdy 1 rfl fun K c=>?_
 refine zan (by rfl) ?_
 refine zbe _ _ 24 rfl (j.drew).heap.size 5 i0 (.int .u8 0) 1 Tryd.underlying24 aj.o ae.o ad.o a6.o rfl (.slice none 0 0) 0 [] rfl (World.ownsRow_nil _ _ _ _) rfl ((zbv (n:=32) t.o (by rw[q100];exact l.o) (by unfold maxLen;omega)).below N) (zac _) (by rw[q100,l.o];unfold maxLen;omega) (by rw[q100,l.o];omega) (q101 _) ?_
 intro v1 y a1 an
 have b1:Ext j.drew y:=zay (Ext.refl _) (World.ownsRow_nil _ _ 5 _) (q101 _) an
 rw[q116]at a1
 have M:Row1 y v1 ((e).map bval):=Row1.of_own a1
 have P:Ext j y:=N.trans b1
 have u:World.ownsRow y (j).heap.size 5 1 v1 (e.length) (e.map bval):=zcn (zce a1 (N).size) (by rw[q100];omega) rfl
 refine c.o _ _ P (fun g=>?_)
 clear c K
 try simp only[nm]
 refine rdy 4 rfl fun K c=>?_
 go_simp
 refine(rwra_any e z y l.o W.o (HG.o.ext (f.o.trans P))).mono ?_
 rintro e m2 ⟨rfl,O⟩
 have M:=M.below O
 have u:=zbi u O
 have J:Ext j m2:=P.trans O
 refine c.o _ _ J (fun g=>?_)
 clear c K
 try simp only[nm]
 refine rdy 8 rfl fun K c=>?_
 go_simp
 refine(rSeal_any (betK e z) (zB 12) key a _ _ m2 (betK_length _ _) (zB_length _) ((zbv (n:=32) i.o (by rw[q100];exact B.o) (by unfold maxLen;omega)).below J) ((zbv (n:=32) d.o (by rw[q100];exact U.o) (by unfold maxLen;omega)).below J) (by rw[B.o];decide) (by rw[U.o];decide)).mono ?_
 rintro e m3 ⟨x3,rfl,o3,T⟩
 have M:=M.below T
 have u:=zbi u T
 have r3:Row1 m3 x3 ((sealB (betK e z) (zB 12) key a).map bval):=Row1.of_own o3
 obtain⟨a3,c3,a8,_⟩:=id r3
 rw[show ((sealB (betK e z) (zB 12) key a).map bval).length=48 from by rw[q100,sealB_length,B.o]]at a8
 subst a8
 have V:Ext j m3:=J.trans T
 refine c.o _ _ V (fun g=>?_)
 clear c K
 try simp only[nm]
 refine rdy 9 rfl fun K c=>?_
 refine zan (by rfl) ?_
 refine zbe _ _ 24 rfl (j).heap.size 5 i0 (.int .u8 0) 1 Tryd.underlying24 aj.o ae.o ad.o a6.o rfl (v1) (e).length _ rfl u rfl r3 (zac _) (by rw[q100,sealB_length,l.o,B.o];unfold maxLen;omega) (by rw[q100,sealB_length,l.o,B.o];omega) V.size ?_
 intro v4 m4 ap F
 have Y:Ext j m4:=zay V u (q101 _) F
 have r4:Row1 m4 v4 (((e++sealB (betK e z) (zB 12) key a)).map bval):=by have h:=Row1.of_own ap;simpa using h
 refine c.o _ _ Y (fun g=>?_)
 clear c K
 try simp only[nm]
 refine tke 10 v4 rfl (yi_assign _ (v4) (by rfl) rfl rfl) g ?_
 simp only[nm]
 refine rdy 11 rfl fun K c=>?_
 go_simp
 refine c.o _ _ Y (fun g=>?_)
 clear c K
 try simp only[nm]
 refine dne ?_
 have af:=xxt f Y
 have a7:=jh r4
 generalize m4=w5 at af a7⊢
 go_wp2_with fail
 refine bodyPost_ret (res_two rfl _ _) rfl ?_
 exact⟨_,by rw[←ai.o,C.o];rfl,by rw[R.o];exact a7.o,af.o⟩
theorem res_threeP {P:Program} {b:Func} {i j k:Nat}(c:b.results=#[.tmp i,.tmp j,.tmp k])(a:Array Value)(w:World):
  (results b a).run P w=.ok (.tuple #[a.getD i undef,a.getD j undef,a.getD k undef]) w:=by
 unfold results
 rw[c]
 simp
theorem own_ne_man {w:World} {base n g:Nat} {x:Value} {d c:List Value}(h:w.ownsRow base 5 1 x n d)(f:Blk w g c 30):∀k,x.ownBlock=some k→k≠g:=fun k e=>by
 rcases h.2 with⟨rfl,_⟩|⟨b,i,j,rfl,_,h2,_⟩
 ·cases e
 obtain rfl:b=k:=Option.some.inj e
 rintro rfl
 have a:w.heap[b]? =some (.cells c.toArray 30):=f
 rw[h2]at a
 injection a with a
 injection a with _ h4
 exact absurd h4 (by decide)
theorem issU_nil(r s d k:List UInt8)(a ver:Int):issU r s d k a ver []=⟨ver,1,merR [blkS (keyOf k ver) ver 0 z64],wraB (pubB d) (sha256 (keyOf k ver)) (keyOf k ver),a,edPub s,certG r a (edPub s),z64⟩:=rfl
theorem rsign_yes(root key:List UInt8)(a:Int)(w:World)(k:root.length=32)(j:key.length=32)(h1:smallB a=true)(h2:mayB key=true)(g:GV w):
  Calls Tryd.prog 21 #[.agg (root.map bval).toArray,.int .i64 a,.agg (key.map bval).toArray] w fun e f=>e=.returned (.tuple #[.agg (certC a key (certG root a key)).toArray,.int .i64 0])∧Below w.heap.size w f:=by
 have h:=rSignCert_any root key a w k j g
 obtain⟨i,c,b,d⟩:=sgn_yes h1 h2 root
 rwa [i,c,b,d]at h
theorem rManifest_nil(r s d k:List UInt8)(j ver:Int)(w:World)(hr:r.length=32)(hs:s.length=32)(hd:d.length=32)(hk:k.length=32)(h1:smallB j=true)(h2:smallB ver=true)(g:GlobK w)(hG:GV w):
  Calls Tryd.prog 10 #[.agg (setC r s d k).toArray,.int .i64 j,.int .i64 ver,.slice none 0 0] w fun e J=>∃x l,e=.returned (.tuple #[x,l,.int .i64 0])∧J.ownsRow w.heap.size 5 1 x 300 ((issM r s d k j ver []).pack.map bval)∧Below w.heap.size w J:=by
 obtain⟨HR,HS,HD,bf,ah,ak⟩:=jq6 hr hs hd hk h1 h2
 obtain⟨b4,bh,aw,HB⟩:=jq4 g hG (set_size hr hs hd hk) (And.intro (Blk.made w (setC r s d k) 43) (Ext.alloc w (.cells (setC r s d k).toArray 43)))
 go_enter Tryd.func10,Tryd.ntmps10
 go_upto_region 1 with(fail)
 obtain⟨h0,hE⟩:=HB.o
 change Code.wp _ _ _ _ (w.alloc (.cells (setC r s d k).toArray 43))
 generalize w.alloc (.cells (setC r s d k).toArray 43)=wa at*
 obtain⟨A,hA⟩:=nxq w.heap.size
 rw[←hA]at h0⊢
 have E:=jh h0
 have p:Hid (Ext w wa):=jh hE
 have HO:Hid (w.heap.size=A):=jh (by omega)
 clear HB hE h0 hA
 clear hr hs hd hk h1 h2 g hG
 have aj:=jh (rKeyOf_any r s d k ver wa HR.o HS.o HD.o bf.o (b4.o.ext p.o))
 obtain⟨q,a9⟩:=nxq (keyOf k ver)
 rw[←a9]at aj
 have b7:=jh a9
 have a1:Hid (q.length=32):=jh (by rw[a9];exact keyOf_length _ _)
 have ad:=jh (zag a1.o)
 clear a9
 go_wp2_with (refine wpList_load_mid rfl _ _ rfl A 0 rfl _ _ E.o.range Tryd.underlying43 rfl aw.o ?_)
 refine aj.o.mono ?_
 rintro e w1 ⟨rfl,D⟩
 have E:=xxb E D
 obtain⟨HZ,ap⟩:=jq2 (Blk.made w1 zero32 23) (Ext.alloc w1 (.cells zero32.toArray 23))
 have p:=xxt p D
 have av:Hid ((q.map bval).length=zero32.length):=jh (by rw[q100,a1.o];rfl)
 clear D aj
 go_upto_region 2 with(refine ssb w1.heap.size (q.map bval) HZ.o av.o ad.o (zac _) ?_;intro w2 ab ax)
 obtain⟨a3,hT⟩:=nxq w1.heap.size
 rw[←hT]at ab⊢
 have m:=jh (zab ap.o ax (q101 _))
 have E:=xxb E m.o
 have L:=jh ab
 have p:=xxt p m.o
 clear hT ab ax HZ ap m av aw
 go_wp2_with (refine slb a3 L.o Tryd.underlying23 ad.o ?_)
 refine(rMake_nil q ver w2 a1.o ak.o).mono ?_
 rintro e z ⟨lx,rfl,an,D⟩
 have Q:=jh an
 obtain⟨E,L⟩:=xq2 E L D
 have p:=xxt p D
 clear an D
 obtain⟨au,ay,aq,_⟩:=set_parts E.o HR.o HS.o HD.o
 obtain⟨ar,P,aa,y,X⟩:=jq5 au ay aq (bh.o.ext p.o) (b4.o.ext p.o)
 clear au ay aq E
 go_upto_region 5 with(fail)
 have M:Ext z z.drew:=Ext.drew _
 refine wp_region_held_drew (S:=fun J=>Ext z J) (by kernel_rfl) M (fun i=>?_)
 refine tke 0 (.pointer (some ⟨A,0,none⟩)) rfl (zbb (.pointer (some ⟨A,0,none⟩)) (by rfl) (fun w _=>by go_simp)) i ?_
 simp only[nm]
 refine tke 1 (.agg ((r).map bval).toArray) rfl (sld A 0 (fun w h=>rng_ext ar.o h) Tryd.underlying23 (zag HR.o)) i ?_
 simp only[nm]
 refine tke 2 (.int .i64 j) rfl (zba _ (.int .i64 j) (by rfl) rfl rfl) i ?_
 simp only[nm]
 refine tke 3 (.pointer (some ⟨A,32,none⟩)) rfl (zbb (.pointer (some ⟨A,32,none⟩)) (by rfl) (fun w _=>by go_simp)) i ?_
 simp only[nm]
 refine tke 4 (.agg ((s).map bval).toArray) rfl (sld A 32 (fun w h=>rng_ext P.o h) Tryd.underlying23 (zag HS.o)) i ?_
 simp only[nm]
 refine Fl.go (f:=10) (d:=14) (zs:=(certC 0 z32 z64)) (T:=28) (B:=(z).heap.size) ?_ i
 clear i
 refine Fl.step 5 rfl rfl rfl rfl rfl zero_crt (fun _ _ h1 h2=>h1.trans h2) (fun _ h=>h.size) (fun z1 u K af a0 g=>?_)
 have H:Ext z z1:=M.trans af
 clear a0
 go_simp
 refine(rpublic_f s z1 HS.o (y.o.ext H).1.1 (y.o.ext H).1.2.2.1 (y.o.ext H).1.2.2.2.1 (y.o.ext H).1.2.2.2.2).mono ?_
 rintro e m1 ⟨rfl,b1⟩
 have v:Ext z m1:=H.trans b1
 refine g.o (.agg ((edPub s).map bval).toArray) _ b1 v ?_
 clear g K u
 try simp only[nm]
 refine Fl.step 6 rfl rfl rfl rfl rfl zero_crt (fun _ _ h1 h2=>h1.trans h2) (fun _ h=>h.size) (fun z2 u K am a0 g=>?_)
 have U:Ext z z2:=v.trans am
 clear a0
 go_simp
 refine(rsign_yes r (edPub s) j z2 HR.o (zcw s) ah.o (mayB_true (may_pub s)) (y.o.ext U)).mono ?_
 rintro e m2 ⟨rfl,V⟩
 have G:Ext z m2:=U.trans V
 refine g.o (.tuple #[.agg (certC j (edPub s) (certG r j (edPub s))).toArray,.int .i64 0]) _ V G ?_
 clear g K u
 try simp only[nm]
 refine Fl.take 7 (.tuple #[.agg (certC j (edPub s) (certG r j (edPub s))).toArray,.int .i64 0]) rfl (fun u=>zba _ (.tuple #[.agg (certC j (edPub s) (certG r j (edPub s))).toArray,.int .i64 0]) (by rfl) rfl rfl) ?_
 simp only[nm]
 refine Fl.take 8 (.agg (certC j (edPub s) (certG r j (edPub s))).toArray) rfl (fun u=>zbb (.agg (certC j (edPub s) (certG r j (edPub s))).toArray) (by rfl) (fun w _=>by go_simp)) ?_
 simp only[nm]
 refine Fl.take 9 (.int .i64 0) rfl (fun u=>zbb (.int .i64 0) (by rfl) (fun w _=>by go_simp)) ?_
 simp only[nm]
 refine Fl.last rfl rfl rfl rfl zero_crt (fun _ _ h1 h2=>h1.trans h2) (fun _ h=>h.size) (fun m3 g3 b3 i l3 z3=>?_)
 try simp only[nm]
 have Y:Ext z m3:=G.trans b3
 refine rdy 11 rfl fun K g=>?_
 refine zan (by rfl) ?_
 refine zaq _ _ _ rfl g3 (certC j (edPub s) (certG r j (edPub s))) rfl rfl _ _ z3 (by rw[zbz (zcw s) (zdy _ _ _),zbz zbk zcq]) (cert_size (zcw s) (zdy _ _ _)) (certC_one _ _ _) ?_
 intro m4 ae a8
 have Z:Ext z m4:=zab Y a8 l3
 refine g.o _ _ Z (fun i=>?_)
 clear g K
 try simp only[nm]
 refine rdy 12 rfl fun K g=>?_
 go_simp
 refine g.o _ _ Z (fun i=>?_)
 clear g K
 try simp only[nm]
 refine dne ?_
 obtain⟨a2,m,az⟩:=jq3 ae Z l3
 generalize m4=w4 at a2 m az⊢
 generalize g3=b9 at a2 az⊢
 obtain⟨P,aa⟩:=jq2 (rng_ext P.o m.o) (rng_ext aa.o m.o)
 have L:=xxb L m.o
 have Q:=jh (Q.o.below m.o)
 have p:=xxt p m.o
 obtain⟨y,X⟩:=jq2 (y.o.ext m.o) (X.o.ext m.o)
 clear m ar
 go_upto_region 8 with(fail)
 generalize w4=w5 at*
 have M:Ext w5 w5.drew:=Ext.drew _
 refine wp_region_held_drew (S:=fun J=>Ext w5 J) (by kernel_rfl) M (fun i=>?_)
 refine tke 0 (.pointer (some ⟨A,64,none⟩)) rfl (zbb (.pointer (some ⟨A,64,none⟩)) (by rfl) (fun w _=>by go_simp)) i ?_
 simp only[nm]
 refine tke 1 (.agg ((d).map bval).toArray) rfl (sld A 64 (fun w h=>rng_ext aa.o h) Tryd.underlying23 (zag HD.o)) i ?_
 simp only[nm]
 refine tke 3 (.slice (some ⟨a3,0,none⟩) 32 32) rfl (zcd _ _ _ _ (.pointer (some ⟨a3,0,none⟩)) (.slice (some ⟨a3,0,none⟩) 32 32) none none (by rfl) rfl rfl rfl rfl (fun w=>zct Tryd.underlying23 Tryd.sizeOf5 (by omega) _ w)) i ?_
 simp only[nm]
 refine tke 5 (.agg ((q).map bval).toArray) rfl (sld a3 0 (fun w h=>zau L.o h) Tryd.underlying23 ad.o) i ?_
 simp only[nm]
 refine rdy 2 rfl fun K g=>?_
 go_simp
 refine(rladpub_any d w5.drew HD.o).mono ?_
 rintro e m1 ⟨rfl,b1⟩
 have v:Ext w5 m1:=M.trans b1
 refine g.o _ _ v (fun i=>?_)
 clear g K
 try simp only[nm]
 refine rdy 4 rfl fun K g=>?_
 go_simp
 refine(zdm _ q m1 ((zbv (n:=32) L.o (by rw[q100];exact a1.o) (by unfold maxLen;omega)).below v) (by rw[a1.o];decide) (X.o.ext v)).mono ?_
 rintro e m2 ⟨rfl,V⟩
 have G:Ext w5 m2:=v.trans V
 refine g.o _ _ G (fun i=>?_)
 clear g K
 try simp only[nm]
 refine rdy 6 rfl fun K g=>?_
 go_simp
 refine(rWrap_any (pubB d) (sha256 q) q m2 (pubB_length d) (zbg _) a1.o (X.o.ext G)).mono ?_
 rw[sh_pub (zbg _) HD.o,wraL_pub q HD.o (zbg _)]
 rintro e m3 ⟨x3,rfl,r3,b3⟩
 have Y:Ext w5 m3:=G.trans b3
 refine g.o _ _ Y (fun i=>?_)
 clear g K
 try simp only[nm]
 refine tke 7 (.tuple #[x3,.int .i64 0]) rfl (zba _ (.tuple #[x3,.int .i64 0]) (by rfl) rfl rfl) i ?_
 simp only[nm]
 refine tke 8 x3 rfl (zbb (x3) (by rfl) (fun w _=>by go_simp)) i ?_
 simp only[nm]
 refine tke 9 (.int .i64 0) rfl (zbb (.int .i64 0) (by rfl) (fun w _=>by go_simp)) i ?_
 simp only[nm]
 refine tke 10 x3 rfl (yi_assign _ (x3) (by rfl) rfl rfl) i ?_
 simp only[nm]
 refine rdy 11 rfl fun K g=>?_
 go_simp
 refine g.o _ _ Y (fun i=>?_)
 clear g K
 try simp only[nm]
 refine dne ?_
 obtain⟨W,m⟩:=jq2 r3 Y
 generalize m3=w6 at W m⊢
 generalize x3=xw at W⊢
 obtain⟨P,Q⟩:=jq2 (rng_ext P.o m.o) (Q.o.below m.o)
 have a2:=xxb a2 m.o
 have p:=xxt p m.o
 obtain⟨y,X⟩:=jq2 (y.o.ext m.o) (X.o.ext m.o)
 clear m aa L
 obtain⟨la,lc,rfl⟩:∃a c,lx=.slice a 1 c:=by
  obtain⟨bj,hr,hl,_⟩:=Q.o
  obtain⟨a,c,e,_⟩:=hr
  exact⟨a,c,by rw[e,hl];rfl⟩
 obtain⟨O,N,I,rfl⟩:=row_form W.o
 obtain⟨F,a4⟩:=nxq (⟨ver,1,merR [blkS q ver 0 z64],wraB (pubB d) (sha256 q) q,j,edPub s,certG r j (edPub s),z64⟩:Man)
 obtain⟨t,a6⟩:=nxq (issM r s d k j ver [])
 have ao:Hid (∀w,(Instr.build 30 #[(0,.int .i64 ver),(1,.int .i64 1),(2,.agg ((merR [blkS q ver 0 z64]).map bval).toArray),(3,.slice O N I),(4,.agg (certC j (edPub s) (certG r j (edPub s))).toArray)]).run Tryd.prog w=.ok (.agg (manC F (.slice O N I)).toArray) w):=jh (fun w=>by rw[a4];exact build_man O N I (merR_length _) (zcw s) (zdy _ _ _) w)
 have b6:Hid F.Arr:=jh (by rw[a4];exact⟨merR_length _,zcw _,zdy _ _ _,zcq⟩)
 have al:issU r s d k j ver []=F:=by rw[issU_nil,a4,b7.o]
 have ag:F.ok=true:=by
  have h:=issM_ok (root:=r) (sgn:=s) (dev:=d) (key:=k) (id:=j) (ver:=ver) (b:=[]) ah.o ak.o (by simp)
  have h2:(issM r s d k j ver []).ok=(issU r s d k j ver []).ok:=Man.put_ok _ _
  rwa [h2,al]at h
 have bb:Hid (F.err=0):=jh (Man.yes ag).1
 have bc:Hid (F.sgd s=t):=jh (by
  rw[a6]
  unfold issM
  rw[al]
  exact if_pos ag)
 have a5:Hid t.Arr:=jh (by rw[a6];exact issM_arr _ _ _ _ _ _ _)
 have a7:t.ok=true:=by rw[a6];exact issM_ok ah.o ak.o (by simp)
 have ba:Hid (t.err=0):=jh (Man.yes a7).1
 have bg:Hid (t.pacL=t.pack):=jh (Man.pac_yes a7)
 have bd:Hid (t.pack.length=300):=jh (Man.pack_length a5.o (Man.ok_all a7).2.2.2.1)
 have bi:=jh a6
 have W:Hid (Row1 w6 (.slice O N I) (F.wr.map bval)):=jh (by rw[a4];exact W.o)
 clear a4 a6 al ag a7
 generalize w6=C at*
 go_upto_region 11 with(fail)
 have M:Ext C C.drew:=Ext.drew _
 refine wp_region_held_drew (S:=fun J=>Ext C J) (by kernel_rfl) M (fun i=>?_)
 refine tke 0 (.pointer (some ⟨A,32,none⟩)) rfl (zbb (.pointer (some ⟨A,32,none⟩)) (by rfl) (fun w _=>by go_simp)) i ?_
 simp only[nm]
 refine tke 1 (.agg ((s).map bval).toArray) rfl (sld A 32 (fun w h=>rng_ext P.o h) Tryd.underlying23 (zag HS.o)) i ?_
 simp only[nm]
 refine tke 2 (.int .i64 ver) rfl (zba _ (.int .i64 ver) (by rfl) rfl rfl) i ?_
 simp only[nm]
 refine tke 3 (.slice la 1 lc) rfl (zba _ (.slice la 1 lc) (by rfl) rfl rfl) i ?_
 simp only[nm]
 refine tke 4 (.int .i64 1) rfl (zbb (.int .i64 1) (by rfl) (fun w _=>by go_simp)) i ?_
 simp only[nm]
 refine tke 5 (.slice la 1 lc) rfl (zba _ (.slice la 1 lc) (by rfl) rfl rfl) i ?_
 simp only[nm]
 refine tke 7 (.slice O N I) rfl (zba _ (.slice O N I) (by rfl) rfl rfl) i ?_
 simp only[nm]
 refine tke 8 (.agg (certC j (edPub s) (certG r j (edPub s))).toArray) rfl (sld b9 0 (fun w h=>zau a2.o h) Tryd.underlying28 (cert_size (zcw s) (zdy _ _ _))) i ?_
 simp only[nm]
 refine Fl.go (f:=14) (d:=16) (zs:=(manC manZ (.slice none 0 0))) (T:=30) (B:=(C).heap.size) ?_ i
 clear i
 refine Fl.step 6 rfl rfl rfl rfl rfl zero_man (fun _ _ h1 h2=>h1.trans h2) (fun _ h=>h.size) (fun z1 u K af a0 g=>?_)
 have H:Ext C z1:=M.trans af
 clear a0
 go_simp
 refine(rRoot_any [blkS q ver 0 z64] _ z1 (by intro l hl;simp at hl;subst hl;rw[blkS_length zcq];decide) (by simp) (Q.o.below H) (X.o.ext H)).mono ?_
 rintro e m1 ⟨rfl,b1⟩
 have v:Ext C m1:=H.trans b1
 refine g.o (.agg ((merR [blkS q ver 0 z64]).map bval).toArray) _ b1 v ?_
 clear g K u
 try simp only[nm]
 refine Fl.take 9 (.agg (manC F (.slice O N I)).toArray) rfl (fun u=>yi_build _ _ _ _ ao.o (by rfl) rfl (by simp[Act.eval,Act.put])) ?_
 simp only[nm]
 refine Fl.step 10 rfl rfl rfl rfl rfl zero_man (fun _ _ h1 h2=>h1.trans h2) (fun _ h=>h.size) (fun z2 u K am a0 g=>?_)
 have U:Ext C z2:=v.trans am
 clear a0
 have h:=rSignManifest_any s F (.slice O N I) z2 HS.o b6.o (W.o.below U) (y.o.ext U).1
 rw[bc.o,bb.o]at h
 go_simp
 refine h.mono ?_
 rintro e m2 ⟨x2,rfl,R,V⟩
 clear h
 have R:=zce R U.size
 have G:Ext C m2:=U.trans V
 refine g.o (.tuple #[.agg (manC t x2).toArray,.int .i64 0]) _ V G ?_
 clear g K u
 try simp only[nm]
 refine Fl.take 11 (.tuple #[.agg (manC t x2).toArray,.int .i64 0]) rfl (fun u=>zba _ (.tuple #[.agg (manC t x2).toArray,.int .i64 0]) (by rfl) rfl rfl) ?_
 simp only[nm]
 refine Fl.take 12 (.agg (manC t x2).toArray) rfl (fun u=>zbb (.agg (manC t x2).toArray) (by rfl) (fun w _=>by go_simp)) ?_
 simp only[nm]
 refine Fl.take 13 (.int .i64 0) rfl (fun u=>zbb (.int .i64 0) (by rfl) (fun w _=>by go_simp)) ?_
 simp only[nm]
 refine Fl.last rfl rfl rfl rfl zero_man (fun _ _ h1 h2=>h1.trans h2) (fun _ h=>h.size) (fun m3 g3 b3 i l3 z3=>?_)
 try simp only[nm]
 have R:=zbi R b3
 have Y:Ext C m3:=G.trans b3
 refine rdy 15 rfl fun K g=>?_
 refine zan (by rfl) ?_
 refine zaq _ _ _ rfl g3 (manC t x2) rfl rfl _ _ z3 (by rw[zbd a5.o,zbd zcy]) (zdc a5.o _) (zed (row_cell (Row1.of_own R))) ?_
 intro m4 ae a8
 have oF:=own_far R a8 (own_ne_man R z3)
 have Z:Ext C m4:=zab Y a8 l3
 refine g.o _ _ Z (fun i=>?_)
 clear g K
 try simp only[nm]
 refine rdy 16 rfl fun K g=>?_
 go_simp
 refine g.o _ _ Z (fun i=>?_)
 clear g K
 try simp only[nm]
 refine dne ?_
 obtain⟨ai,b0,m⟩:=jq3 ae oF Z
 generalize m4=w8 at ai m b0⊢
 generalize g3=b8 at ai⊢
 generalize x2=xm at*
 have p:=xxt p m.o
 obtain⟨be,ac⟩:=jq2 (zdc a5.o xm) (rPackManifest_any t xm w8 a5.o (Row1.of_own b0.o))
 rw[ba.o,bg.o,bd.o]at ac
 clear m P Q a2 W ao
 go_wp2_with (refine wpList_load_mid rfl _ _ rfl b8 0 rfl _ _ ai.o.range Tryd.underlying30 rfl be.o ?_)
 refine ac.o.mono ?_
 rintro e w9 ⟨x,rfl,ho,D⟩
 have b5:=jh (zce ho p.o.size)
 have p:=xxt p D
 clear ho D ac
 go_wp2_with fail
 refine bodyPost_ret (res_threeP rfl _ _) rfl ?_
 exact⟨x,_,rfl,by rw[←bi.o];exact b5.o,p.o⟩
theorem str_cells(l:List UInt8):Lib.strCells ⟨l.toArray⟩=l.map bval:=by
 simp only[Lib.strCells]
 rfl
theorem wp_append_str {P:Program} {o:Oper} {a:Act} {w:World} {K:Act→World→Prop} {Q:Exit→Act→World→Prop}(d:Option Nat)(j x:Operand)(t u:TypeId)(q:o.dst=d)
  (p:o.op=.call { callee:=.builtin .append,args:=#[j,x],argTypes:=#[t,u] })
  (base:Nat) (e:TypeId) (i:TypeInfo) (ht:P.underlying t=some (.slice e)) (s:P.underlying u=some .string) (A:P.info? e=some i) (y:i.zero=some (.int .u8 0)) (k:i.size=1) (E:i.bytes=1)
  (v:Value) (n:Nat) (g:List Value) (l:List UInt8) (B:a.eval j=v) (D:w.ownsRow base e 1 v n g) (m:a.eval x=.string ⟨l.toArray⟩)
  (F:n+l.length≤1000000000) (z:base≤w.heap.size)
  (h:∀c b,b.ownsRow base e 1 c (n+l.length) (g++l.map bval)→w.grownBy b v.ownBlock→K (a.put d c) b):o.wp P a w K Q:=by
 subst q
 have f:(⟨l.toArray⟩:ByteArray).size=l.length:=by simp[ByteArray.size]
 obtain⟨c,b,C,h2,r,_⟩:=Lib.run_append_own_string (P:=P) w base t u o.type e i ht s A y k E v n g D ⟨l.toArray⟩ (by rw[f];unfold maxLen;omega) (by rw[f];omega) z
 rw[f,str_cells]at h2
 unfold Oper.wp execOp
 simp only[p,resolve,invoke,builtin,Sem.run_bind,Sem.run_pure,Result.andThen_ok,List.map_toArray,q121,q122,B,m,C]
 exact h c b h2 r
section
theorem setK_is(nm:List UInt8)(n:Int):sha256 (zbh n++nm)=setK nm n:=rfl
section
variable {r s d k x:List UInt8}
theorem lay_setA(a:r.length=32)(b:x.length=32):laid (setC r s d k) 0 (x.map bval)=setC x s d k:=
 laid_mid (pre:=[]) (by rw[q100,q100,a,b])
theorem lay_setB(a:r.length=32)(c:s.length=32)(b:x.length=32):laid (setC r s d k) 32 (x.map bval)=setC r x d k:=by
 have h:=laid_mid (pre:=r.map bval) (mid:=s.map bval) (post:=d.map bval++k.map bval) (new:=x.map bval) (by rw[q100,q100,c,b])
 rwa [q100,a]at h
theorem lay_setC(a:r.length=32)(e:s.length=32)(b:d.length=32)(c:x.length=32):laid (setC r s d k) 64 (x.map bval)=setC r s x k:=by
 have h:=laid_mid (pre:=r.map bval++s.map bval) (mid:=d.map bval) (post:=k.map bval) (new:=x.map bval) (by rw[q100,q100,b,c])
 rw[q102,q100,q100,a,e]at h
 simpa[setC]using h
theorem lay_setD(f:r.length=32)(b:s.length=32)(c:d.length=32)(e:k.length=32)(a:x.length=32):laid (setC r s d k) 96 (x.map bval)=setC r s d x:=by
 have h:=laid_mid (pre:=r.map bval++(s.map bval++d.map bval)) (mid:=k.map bval) (post:=[]) (new:=x.map bval) (by rw[q100,q100,e,a])
 rw[q102,q102,q100,q100,q100,f,b,c]at h
 simpa[setC]using h
theorem setC_one(r s d k:List UInt8):∀v∈setC r s d k,v.oneCell'=true:=by
 intro v a
 unfold setC at a
 simp only[List.mem_append]at a
 rcases a with h|h|h|h<;>exact zac _ v h
theorem result_blk_s {w:World} {e:Func} {p:Tmp} {d:TypeId}(h:e.results=#[.cell p d])(b:Array Value)(c:Nat)(t:TypeId)(a:List Value)(i:Array Field)
  (k:b.getD p undef=.pointer (some ⟨c,0,none⟩)) (j:Blk w c a t) (f:Tryd.prog.underlying d=some (.struct i)) (g:(Tryd.prog.info? d).map (·.size)=some a.length):
  (results e b).run Tryd.prog w=.ok (.agg a.toArray) w:=
 results_cell_row h b w c t a.toArray (0,0) _ k j f rfl (by simpa using g)
theorem set_there {w:World} {c o n:Nat} {a:List Value} {t:TypeId}(h:Blk w c a t)(d:o+n≤a.length):w.there c o n:=fun j b=>by
 refine⟨?_,h.free (o+j)⟩
 rw[h.cell (o+j),List.getElem?_eq_getElem (by omega)]
 rfl
theorem build_set(b:r.length=32)(c:s.length=32)(f:d.length=32)(g:k.length=32)(w:World):(Instr.build 43 #[(0,.agg (r.map bval).toArray),(1,.agg (s.map bval).toArray),(2,.agg (d.map bval).toArray),(3,.agg (k.map bval).toArray)]).run Tryd.prog w=.ok (.agg (setC r s d k).toArray) w:=by
 refine run_build w _ _ _ ?_
 have e:Instr.fill (fun i=>(#[(0,32),(32,32),(64,32),(96,32)]:Array (Nat×Nat))[i]?) (setC z32 z32 z32 z32).toArray [(0,.agg (r.map bval).toArray),(1,.agg (s.map bval).toArray),(2,.agg (d.map bval).toArray),(3,.agg (k.map bval).toArray)]=some (setC r s d k).toArray:=by
  have a:∀{l:List UInt8},l.length=32→(l.map bval).length=32:=fun h=>by rw[q100,h]
  have lz:=a zbk
  rw[show setC z32 z32 z32 z32=[]++(z32.map bval++(z32.map bval++(z32.map bval++z32.map bval)))from rfl,zdb (off:=0) (n:=32) (new:=r.map bval) rfl rfl rfl lz (a b)]
  rw[show []++(r.map bval++(z32.map bval++(z32.map bval++z32.map bval)))=r.map bval++(z32.map bval++(z32.map bval++z32.map bval))from rfl,zdb (off:=32) (n:=32) (new:=s.map bval) rfl rfl (a b) lz (a c)]
  rw[show r.map bval++(s.map bval++(z32.map bval++z32.map bval))=(r.map bval++s.map bval)++(z32.map bval++z32.map bval) by simp,zdb (off:=64) (n:=32) (new:=d.map bval) rfl rfl (by rw[q102,a b,a c]) lz (a f)]
  rw[show (r.map bval++s.map bval)++(d.map bval++z32.map bval)=(r.map bval++(s.map bval++d.map bval))++(z32.map bval++[]) by simp,zdb (off:=96) (n:=32) (new:=k.map bval) rfl rfl (by rw[q102,q102,a b,a c,a f]) lz (a g)]
  rw[Instr.fill]
  simp[setC]
 refine Eq.trans ?_ e
 kernel_rfl
end
theorem rSetOf_any(n:Int)(w:World)(hG:GlobK w):Calls Tryd.prog 9 #[.int .i64 n] w fun e y=>e=.returned (.agg (setC (setRoot n) (setSign n) (setDev n) (setKey n)).toArray)∧Below w.heap.size w y:=by
 obtain⟨P,hi,W,a0,a1⟩:=info_parts Tryd.info5
 obtain⟨R,O,N,U⟩:=jq4 hi W a0 a1
 clear hi W a0 a1
 have Q:=jh hG
 have HB:=jh (boxes3 w (setC z32 z32 z32 z32) ([.string ⟨([114,111,111,116]:List UInt8).toArray⟩,.string ⟨([115,105,103,110,101,114]:List UInt8).toArray⟩,.string ⟨([100,101,118,105,99,101]:List UInt8).toArray⟩,.string ⟨([107,101,121]:List UInt8).toArray⟩]) (setC z32 z32 z32 z32) 43 9 52)
 clear hG
 go_enter Tryd.func9,Tryd.ntmps9
 go_wp2_with fail
 obtain⟨h1,h2,Y,hE⟩:=HB.o
 change Code.wp _ _ _ _ (((w.alloc (.cells (setC z32 z32 z32 z32).toArray 43)).alloc (.cells ([.string ⟨([114,111,111,116]:List UInt8).toArray⟩,.string ⟨([115,105,103,110,101,114]:List UInt8).toArray⟩,.string ⟨([100,101,118,105,99,101]:List UInt8).toArray⟩,.string ⟨([107,101,121]:List UInt8).toArray⟩]).toArray 9)).alloc (.cells (setC z32 z32 z32 z32).toArray 52))
 generalize (((w.alloc (.cells (setC z32 z32 z32 z32).toArray 43)).alloc (.cells ([.string ⟨([114,111,111,116]:List UInt8).toArray⟩,.string ⟨([115,105,103,110,101,114]:List UInt8).toArray⟩,.string ⟨([100,101,118,105,99,101]:List UInt8).toArray⟩,.string ⟨([107,101,121]:List UInt8).toArray⟩]).toArray 9)).alloc (.cells (setC z32 z32 z32 z32).toArray 52))=wr at*
 obtain⟨T,hT⟩:=nxq (w.heap.size+1+1)
 rw[←hT]at Y⊢
 obtain⟨L,hL⟩:=nxq (w.heap.size+1)
 rw[←hL]at h2⊢
 obtain⟨C,hC⟩:=nxq w.heap.size
 rw[←hC]at h1⊢
 have m:Hid (w.heap.size=C∧C<L∧L<T):=jh (by omega)
 have V:Hid (T≠L):=jh (by omega)
 obtain⟨z,r,x⟩:=jq3 h1 h2 Y
 have p:Hid (Ext w wr):=jh hE
 clear hT hL hC h1 h2 Y hE HB
 refine wp_loop_rounds 5 ?_
 rw[rounds_succ]
 go_upto_region 6 with(fail)
 have i:Ext wr wr.drew:=Ext.drew _
 refine wp_region_held_drew (S:=fun y=>Far (T) wr y) (by kernel_rfl) (zao i) (fun b=>?_)
 refine tke 0 (.int .i64 0) rfl (zba _ (.int .i64 0) (by rfl) rfl rfl) b ?_
 simp only[nm]
 refine tke 1 (.int .i64 n) rfl (zba _ (.int .i64 n) (by rfl) rfl rfl) b ?_
 simp only[nm]
 refine tke 3 (.slice (some ⟨L,0,none⟩) 4 4) rfl (zba _ (.slice (some ⟨L,0,none⟩) 4 4) (by rfl) rfl rfl) b ?_
 simp only[nm]
 refine tke 4 (.int .i64 0) rfl (zba _ (.int .i64 0) (by rfl) rfl rfl) b ?_
 simp only[nm]
 refine tke 5 (.pointer (some ⟨L,0,none⟩)) rfl (zbb (.pointer (some ⟨L,0,none⟩)) (by rfl) (fun w _=>by go_simp)) b ?_
 simp only[nm]
 refine tke 6 (.string ⟨(([114,111,111,116]:List UInt8)).toArray⟩) rfl (zbb (.string ⟨([114,111,111,116]:List UInt8).toArray⟩) (by rfl) (fun w h=>by have D:=zas r.o V.o h 0 _ rfl;simp only[q111]at D;go_simp)) b ?_
 simp only[nm]
 refine rdy 2 rfl fun K a=>?_
 go_simp
 refine(rone_any n wr.drew).mono ?_
 rintro e B ⟨F,rfl,g,E⟩
 have g:=zce g i.size
 have j:Ext wr B:=i.trans E
 refine a.o _ _ (zao j) (fun b=>?_)
 clear a K
 try simp only[nm]
 refine rdy 7 rfl fun K a=>?_
 refine zan (by rfl) ?_
 refine wp_append_str (some 18) _ _ 24 9 rfl rfl wr.heap.size 5 P Tryd.underlying24 Tryd.underlying9 R.o O.o N.o U.o F 8 _ [114,111,111,116] rfl g rfl (by decide) j.size ?_
 intro X v t H
 rw[←q104]at t
 have l:Ext wr v:=zay j g (q101 _) H
 refine a.o _ _ (zao l) (fun b=>?_)
 clear a K
 try simp only[nm]
 refine rdy 8 rfl fun K a=>?_
 have h:=zdm _ _ v (Row1.of_own t) (by rw[q102,zcc];decide) (Q.o.ext (p.o.trans l))
 rw[setK_is]at h
 go_simp
 refine h.mono ?_
 rintro e k ⟨rfl,G⟩
 clear h
 have d:Ext wr k:=l.trans G
 refine a.o _ _ (zao d) (fun b=>?_)
 clear a K
 try simp only[nm]
 refine tke 9 (.pointer (some ⟨T,0,none⟩)) rfl (zbb (.pointer (some ⟨T,0,none⟩)) (by rfl) (fun w _=>by go_simp)) b ?_
 simp only[nm]
 refine rdy 10 rfl fun K a=>?_
 have u:=zal x.o d
 have I:=zal z.o d
 have J:=zal r.o d
 refine zan (by rfl) ?_
 refine wp_store_mid _ _ _ rfl T 0 ((setK [114,111,111,116] n).map bval).toArray rfl rfl (by rw[q127,q100,zak];exact set_there u (by rw[zdo (by simp[z32,zak]) (by simp[z32,zak]) (by simp[z32,zak]) (by simp[z32,zak])];decide)) (by rw[q127];exact zag (zak _ _)) (all_oneCell_toArray (zac _)) ?_
 rw[List.toList_toArray]
 have s:=Blk.setCells ((setK [114,111,111,116] n).map bval) _ 0 _ u
 have f:=zbx (c:=T) ((setK [114,111,111,116] n).map bval) 0 _ _ (zbc k _)
 rw[lay_setA zbk (zak _ _)]at s
 generalize k.setCells T 0 ((setK [114,111,111,116] n).map bval)=A at*
 refine a.o _ _ (zbt d f) (fun b=>?_)
 clear a K
 try simp only[nm]
 refine dne ?_
 have x:=jh s
 have z:=jh (I.grown f (by have:=m.o;simp;omega))
 have r:=jh (J.grown f (by have:=m.o;simp;omega))
 have p:=jh (zab (p.o.trans d) f (by have:=m.o;omega))
 generalize A=wr at*
 go_wp2_with fail
 rw[rounds_succ]
 go_upto_region 6 with(fail)
 have i:Ext wr wr.drew:=Ext.drew _
 refine wp_region_held_drew (S:=fun y=>Far (T) wr y) (by kernel_rfl) (zao i) (fun b=>?_)
 refine tke 0 (.int .i64 1) rfl (zba _ (.int .i64 1) (by rfl) rfl rfl) b ?_
 simp only[nm]
 refine tke 1 (.int .i64 n) rfl (zba _ (.int .i64 n) (by rfl) rfl rfl) b ?_
 simp only[nm]
 refine tke 3 (.slice (some ⟨L,0,none⟩) 4 4) rfl (zba _ (.slice (some ⟨L,0,none⟩) 4 4) (by rfl) rfl rfl) b ?_
 simp only[nm]
 refine tke 4 (.int .i64 1) rfl (zba _ (.int .i64 1) (by rfl) rfl rfl) b ?_
 simp only[nm]
 refine tke 5 (.pointer (some ⟨L,1,none⟩)) rfl (zbb (.pointer (some ⟨L,1,none⟩)) (by rfl) (fun w _=>by go_simp)) b ?_
 simp only[nm]
 refine tke 6 (.string ⟨(([115,105,103,110,101,114]:List UInt8)).toArray⟩) rfl (zbb (.string ⟨([115,105,103,110,101,114]:List UInt8).toArray⟩) (by rfl) (fun w h=>by have D:=zas r.o V.o h 1 _ rfl;simp only[q111]at D;go_simp)) b ?_
 simp only[nm]
 refine rdy 2 rfl fun K a=>?_
 go_simp
 refine(rone_any n wr.drew).mono ?_
 rintro e B ⟨F,rfl,g,E⟩
 have g:=zce g i.size
 have j:Ext wr B:=i.trans E
 refine a.o _ _ (zao j) (fun b=>?_)
 clear a K
 try simp only[nm]
 refine rdy 7 rfl fun K a=>?_
 refine zan (by rfl) ?_
 refine wp_append_str (some 18) _ _ 24 9 rfl rfl wr.heap.size 5 P Tryd.underlying24 Tryd.underlying9 R.o O.o N.o U.o F 8 _ [115,105,103,110,101,114] rfl g rfl (by decide) j.size ?_
 intro X v t H
 rw[←q104]at t
 have l:Ext wr v:=zay j g (q101 _) H
 refine a.o _ _ (zao l) (fun b=>?_)
 clear a K
 try simp only[nm]
 refine rdy 8 rfl fun K a=>?_
 have h:=zdm _ _ v (Row1.of_own t) (by rw[q102,zcc];decide) (Q.o.ext (p.o.trans l))
 rw[setK_is]at h
 go_simp
 refine h.mono ?_
 rintro e k ⟨rfl,G⟩
 clear h
 have d:Ext wr k:=l.trans G
 refine a.o _ _ (zao d) (fun b=>?_)
 clear a K
 try simp only[nm]
 refine tke 9 (.pointer (some ⟨T,32,none⟩)) rfl (zbb (.pointer (some ⟨T,32,none⟩)) (by rfl) (fun w _=>by go_simp)) b ?_
 simp only[nm]
 refine rdy 10 rfl fun K a=>?_
 have u:=zal x.o d
 have I:=zal z.o d
 have J:=zal r.o d
 refine zan (by rfl) ?_
 refine wp_store_mid _ _ _ rfl T 32 ((setK [115,105,103,110,101,114] n).map bval).toArray rfl rfl (by rw[q127,q100,zak];exact set_there u (by rw[zdo (by simp[z32,zak]) (by simp[z32,zak]) (by simp[z32,zak]) (by simp[z32,zak])];decide)) (by rw[q127];exact zag (zak _ _)) (all_oneCell_toArray (zac _)) ?_
 rw[List.toList_toArray]
 have s:=Blk.setCells ((setK [115,105,103,110,101,114] n).map bval) _ 32 _ u
 have f:=zbx (c:=T) ((setK [115,105,103,110,101,114] n).map bval) 32 _ _ (zbc k _)
 rw[lay_setB (zak _ _) zbk (zak _ _)]at s
 generalize k.setCells T 32 ((setK [115,105,103,110,101,114] n).map bval)=A at*
 refine a.o _ _ (zbt d f) (fun b=>?_)
 clear a K
 try simp only[nm]
 refine dne ?_
 have x:=jh s
 have z:=jh (I.grown f (by have:=m.o;simp;omega))
 have r:=jh (J.grown f (by have:=m.o;simp;omega))
 have p:=jh (zab (p.o.trans d) f (by have:=m.o;omega))
 generalize A=wr at*
 go_wp2_with fail
 rw[rounds_succ]
 go_upto_region 6 with(fail)
 have i:Ext wr wr.drew:=Ext.drew _
 refine wp_region_held_drew (S:=fun y=>Far (T) wr y) (by kernel_rfl) (zao i) (fun b=>?_)
 refine tke 0 (.int .i64 2) rfl (zba _ (.int .i64 2) (by rfl) rfl rfl) b ?_
 simp only[nm]
 refine tke 1 (.int .i64 n) rfl (zba _ (.int .i64 n) (by rfl) rfl rfl) b ?_
 simp only[nm]
 refine tke 3 (.slice (some ⟨L,0,none⟩) 4 4) rfl (zba _ (.slice (some ⟨L,0,none⟩) 4 4) (by rfl) rfl rfl) b ?_
 simp only[nm]
 refine tke 4 (.int .i64 2) rfl (zba _ (.int .i64 2) (by rfl) rfl rfl) b ?_
 simp only[nm]
 refine tke 5 (.pointer (some ⟨L,2,none⟩)) rfl (zbb (.pointer (some ⟨L,2,none⟩)) (by rfl) (fun w _=>by go_simp)) b ?_
 simp only[nm]
 refine tke 6 (.string ⟨(([100,101,118,105,99,101]:List UInt8)).toArray⟩) rfl (zbb (.string ⟨([100,101,118,105,99,101]:List UInt8).toArray⟩) (by rfl) (fun w h=>by have D:=zas r.o V.o h 2 _ rfl;simp only[q111]at D;go_simp)) b ?_
 simp only[nm]
 refine rdy 2 rfl fun K a=>?_
 go_simp
 refine(rone_any n wr.drew).mono ?_
 rintro e B ⟨F,rfl,g,E⟩
 have g:=zce g i.size
 have j:Ext wr B:=i.trans E
 refine a.o _ _ (zao j) (fun b=>?_)
 clear a K
 try simp only[nm]
 refine rdy 7 rfl fun K a=>?_
 refine zan (by rfl) ?_
 refine wp_append_str (some 18) _ _ 24 9 rfl rfl wr.heap.size 5 P Tryd.underlying24 Tryd.underlying9 R.o O.o N.o U.o F 8 _ [100,101,118,105,99,101] rfl g rfl (by decide) j.size ?_
 intro X v t H
 rw[←q104]at t
 have l:Ext wr v:=zay j g (q101 _) H
 refine a.o _ _ (zao l) (fun b=>?_)
 clear a K
 try simp only[nm]
 refine rdy 8 rfl fun K a=>?_
 have h:=zdm _ _ v (Row1.of_own t) (by rw[q102,zcc];decide) (Q.o.ext (p.o.trans l))
 rw[setK_is]at h
 go_simp
 refine h.mono ?_
 rintro e k ⟨rfl,G⟩
 clear h
 have d:Ext wr k:=l.trans G
 refine a.o _ _ (zao d) (fun b=>?_)
 clear a K
 try simp only[nm]
 refine tke 9 (.pointer (some ⟨T,64,none⟩)) rfl (zbb (.pointer (some ⟨T,64,none⟩)) (by rfl) (fun w _=>by go_simp)) b ?_
 simp only[nm]
 refine rdy 10 rfl fun K a=>?_
 have u:=zal x.o d
 have I:=zal z.o d
 have J:=zal r.o d
 refine zan (by rfl) ?_
 refine wp_store_mid _ _ _ rfl T 64 ((setK [100,101,118,105,99,101] n).map bval).toArray rfl rfl (by rw[q127,q100,zak];exact set_there u (by rw[zdo (by simp[z32,zak]) (by simp[z32,zak]) (by simp[z32,zak]) (by simp[z32,zak])];decide)) (by rw[q127];exact zag (zak _ _)) (all_oneCell_toArray (zac _)) ?_
 rw[List.toList_toArray]
 have s:=Blk.setCells ((setK [100,101,118,105,99,101] n).map bval) _ 64 _ u
 have f:=zbx (c:=T) ((setK [100,101,118,105,99,101] n).map bval) 64 _ _ (zbc k _)
 rw[lay_setC (zak _ _) (zak _ _) zbk (zak _ _)]at s
 generalize k.setCells T 64 ((setK [100,101,118,105,99,101] n).map bval)=A at*
 refine a.o _ _ (zbt d f) (fun b=>?_)
 clear a K
 try simp only[nm]
 refine dne ?_
 have x:=jh s
 have z:=jh (I.grown f (by have:=m.o;simp;omega))
 have r:=jh (J.grown f (by have:=m.o;simp;omega))
 have p:=jh (zab (p.o.trans d) f (by have:=m.o;omega))
 generalize A=wr at*
 go_wp2_with fail
 rw[rounds_succ]
 go_upto_region 6 with(fail)
 have i:Ext wr wr.drew:=Ext.drew _
 refine wp_region_held_drew (S:=fun y=>Far (T) wr y) (by kernel_rfl) (zao i) (fun b=>?_)
 refine tke 0 (.int .i64 3) rfl (zba _ (.int .i64 3) (by rfl) rfl rfl) b ?_
 simp only[nm]
 refine tke 1 (.int .i64 n) rfl (zba _ (.int .i64 n) (by rfl) rfl rfl) b ?_
 simp only[nm]
 refine tke 3 (.slice (some ⟨L,0,none⟩) 4 4) rfl (zba _ (.slice (some ⟨L,0,none⟩) 4 4) (by rfl) rfl rfl) b ?_
 simp only[nm]
 refine tke 4 (.int .i64 3) rfl (zba _ (.int .i64 3) (by rfl) rfl rfl) b ?_
 simp only[nm]
 refine tke 5 (.pointer (some ⟨L,3,none⟩)) rfl (zbb (.pointer (some ⟨L,3,none⟩)) (by rfl) (fun w _=>by go_simp)) b ?_
 simp only[nm]
 refine tke 6 (.string ⟨(([107,101,121]:List UInt8)).toArray⟩) rfl (zbb (.string ⟨([107,101,121]:List UInt8).toArray⟩) (by rfl) (fun w h=>by have D:=zas r.o V.o h 3 _ rfl;simp only[q111]at D;go_simp)) b ?_
 simp only[nm]
 refine rdy 2 rfl fun K a=>?_
 go_simp
 refine(rone_any n wr.drew).mono ?_
 rintro e B ⟨F,rfl,g,E⟩
 have g:=zce g i.size
 have j:Ext wr B:=i.trans E
 refine a.o _ _ (zao j) (fun b=>?_)
 clear a K
 try simp only[nm]
 refine rdy 7 rfl fun K a=>?_
 refine zan (by rfl) ?_
 refine wp_append_str (some 18) _ _ 24 9 rfl rfl wr.heap.size 5 P Tryd.underlying24 Tryd.underlying9 R.o O.o N.o U.o F 8 _ [107,101,121] rfl g rfl (by decide) j.size ?_
 intro X v t H
 rw[←q104]at t
 have l:Ext wr v:=zay j g (q101 _) H
 refine a.o _ _ (zao l) (fun b=>?_)
 clear a K
 try simp only[nm]
 refine rdy 8 rfl fun K a=>?_
 have h:=zdm _ _ v (Row1.of_own t) (by rw[q102,zcc];decide) (Q.o.ext (p.o.trans l))
 rw[setK_is]at h
 go_simp
 refine h.mono ?_
 rintro e k ⟨rfl,G⟩
 clear h
 have d:Ext wr k:=l.trans G
 refine a.o _ _ (zao d) (fun b=>?_)
 clear a K
 try simp only[nm]
 refine tke 9 (.pointer (some ⟨T,96,none⟩)) rfl (zbb (.pointer (some ⟨T,96,none⟩)) (by rfl) (fun w _=>by go_simp)) b ?_
 simp only[nm]
 refine rdy 10 rfl fun K a=>?_
 have u:=zal x.o d
 have I:=zal z.o d
 have J:=zal r.o d
 refine zan (by rfl) ?_
 refine wp_store_mid _ _ _ rfl T 96 ((setK [107,101,121] n).map bval).toArray rfl rfl (by rw[q127,q100,zak];exact set_there u (by rw[zdo (by simp[z32,zak]) (by simp[z32,zak]) (by simp[z32,zak]) (by simp[z32,zak])];decide)) (by rw[q127];exact zag (zak _ _)) (all_oneCell_toArray (zac _)) ?_
 rw[List.toList_toArray]
 have s:=Blk.setCells ((setK [107,101,121] n).map bval) _ 96 _ u
 have f:=zbx (c:=T) ((setK [107,101,121] n).map bval) 96 _ _ (zbc k _)
 rw[lay_setD (zak _ _) (zak _ _) (zak _ _) zbk (zak _ _)]at s
 generalize k.setCells T 96 ((setK [107,101,121] n).map bval)=A at*
 refine a.o _ _ (zbt d f) (fun b=>?_)
 clear a K
 try simp only[nm]
 refine dne ?_
 have x:=jh s
 have z:=jh (I.grown f (by have:=m.o;simp;omega))
 have r:=jh (J.grown f (by have:=m.o;simp;omega))
 have p:=jh (zab (p.o.trans d) f (by have:=m.o;omega))
 generalize A=wr at*
 go_wp2_with fail
 rw[rounds_succ]
 have q:=set_parts x.o (zak _ _) (zak _ _) (zak _ _)
 obtain⟨a7,a2,a3,a5⟩:=jq4 q.1 q.2.1 q.2.2.1 q.2.2.2
 have M:Hid (∀nm,(Tryd.prog.info? 23).map (·.size)=some ((setK nm n).map bval).length):=jh (fun nm=>zag (zak _ _))
 have Z:Hid ((Tryd.prog.info? 43).map (·.size)=some (setC (setK [114,111,111,116] n) (setK [115,105,103,110,101,114] n) (setK [100,101,118,105,99,101] n) (setK [107,101,121] n)).length):=jh (set_size (zak _ _) (zak _ _) (zak _ _) (zak _ _))
 have a4:Hid ((setC (setK [114,111,111,116] n) (setK [115,105,103,110,101,114] n) (setK [100,101,118,105,99,101] n) (setK [107,101,121] n)).length=(setC z32 z32 z32 z32).length):=jh (by rw[zdo (zak _ _) (zak _ _) (zak _ _) (zak _ _),zdo zbk zbk zbk zbk])
 clear q
 go_wp2_with (first|(refine wpList_load_mid rfl _ _ rfl T 0 rfl _ _ a7.o Tryd.underlying23 rfl (M.o _) ?_)|(refine wpList_load_mid rfl _ _ rfl T 32 rfl _ _ a2.o Tryd.underlying23 rfl (M.o _) ?_)|(refine wpList_load_mid rfl _ _ rfl T 64 rfl _ _ a3.o Tryd.underlying23 rfl (M.o _) ?_)|(refine wpList_load_mid rfl _ _ rfl T 96 rfl _ _ a5.o Tryd.underlying23 rfl (M.o _) ?_)|(refine zcu rfl _ _ rfl #[(0,.agg ((setK [114,111,111,116] n).map bval).toArray),(1,.agg ((setK [115,105,103,110,101,114] n).map bval).toArray),(2,.agg ((setK [100,101,118,105,99,101] n).map bval).toArray),(3,.agg ((setK [107,101,121] n).map bval).toArray)] (by simp[Act.eval,Act.put]) _ (build_set (zak _ _) (zak _ _) (zak _ _) (zak _ _) _) ?_)|(refine ssb C (setC (setK [114,111,111,116] n) (setK [115,105,103,110,101,114] n) (setK [100,101,118,105,99,101] n) (setK [107,101,121] n)) z.o a4.o Z.o (setC_one _ _ _ _) ?_;intro w9 a6 a8))
 refine bodyPost_ret (result_blk_s rfl _ C _ _ _ rfl a6 Tryd.underlying43 Z.o) rfl ?_
 exact⟨rfl,zab p.o a8 (by have:=m.o;omega)⟩
end
theorem pck_i64wrap(n:Int):IntKind.i64.wrap n=wrap64 n:=IntWalk.i64_left n
theorem mrng_any(n a b:Int)(r:Bool)(w:World)(c:decide (a≤n∧n≤b)=r):Calls Tryd.prog 31 #[.int .i64 n,.int .i64 a,.int .i64 b] w fun e f=>e=.returned (.bool r)∧w=f:=by
 by_cases h1:a≤n
 ·by_cases h2:n≤b
  ·have d:Hid (true=r):=jh (by rw[←c];exact(decide_eq_true ⟨h1,h2⟩).symm)
   clear c
   go_enter Tryd.func31,Tryd.ntmps31
   go_wp2_with fail
   go_ret
   exact⟨by rw[←d.o];rfl,rfl⟩
  have d:Hid (false=r):=jh (by rw[←c];exact(decide_eq_false (fun h=>h2 h.2)).symm)
  clear c
  go_enter Tryd.func31,Tryd.ntmps31
  go_wp2_with fail
  go_ret
  exact⟨by rw[←d.o];rfl,rfl⟩
 have d:Hid (false=r):=jh (by rw[←c];exact(decide_eq_false (fun h=>h1 h.1)).symm)
 clear c
 go_enter Tryd.func31,Tryd.ntmps31
 go_wp2_with fail
 go_ret
 exact⟨by rw[←d.o];rfl,rfl⟩
theorem small_rng(n:Int):decide ((0:Int)≤n∧n≤2147483647)=smallB n:=by
 unfold smallB
 by_cases h1:0≤n<;>by_cases h2:n≤2147483647<;>simp[h1,h2]
theorem mval_any(m:Man)(wv:Value)(w:World)(a:m.Arr)(j:Row1 w wv (m.wr.map bval)):
  Calls Tryd.prog 16 #[.agg (manC m wv).toArray] w fun e t=>e=.returned (.bool m.ok)∧Below w.heap.size w t:=by
 obtain⟨ad,cp,p,_⟩:=id j
 rw[q100]at p
 subst p
 obtain⟨s,d⟩:=jq2 a (And.intro (Blk.made w (manC m (.slice ad m.wr.length cp)) 30) (Ext.alloc w (.cells (manC m (.slice ad m.wr.length cp)).toArray 30)))
 go_enter Tryd.func16,Tryd.ntmps16
 go_upto_region 1 with(fail)
 obtain⟨h0,n⟩:=d.o
 change Code.wp _ _ _ _ (w.alloc (.cells (manC m (.slice ad m.wr.length cp)).toArray 30))
 generalize w.alloc (.cells (manC m (.slice ad m.wr.length cp)).toArray 30)=c at*
 obtain⟨M,k⟩:=nxq w.heap.size
 rw[←k]at h0⊢
 have r:=jh h0
 have f:Hid (Ext w c):=jh n
 have z:Hid (w.heap.size=M):=jh (by omega)
 clear d n h0 k
 obtain⟨v,y,_,u,A,_⟩:=man_parts r.o s.o
 clear a j
 have i:=jh (@Man.ok_no m)
 cases h1:smallB m.ver with
 |false=>
  have b:=jh (i.o (fun h=>by rw[h1]at h;cases h.1))
  go_wp2_with fail
  refine(mrng_any m.ver 0 2147483647 false c (by rw[small_rng,h1])).mono ?_
  rintro e g ⟨rfl,rfl⟩
  go_wp2_with fail
  go_ret
  exact⟨by rw[b.o];rfl,f.o⟩
 |true=>
 have q:=jh h1
 go_wp2_with fail
 refine(mrng_any m.ver 0 2147483647 true c (by rw[small_rng,h1])).mono ?_
 rintro e g ⟨rfl,rfl⟩
 clear h1
 by_cases h2:1≤m.blk∧m.blk≤32
 ·have d:=jh h2
  go_wp2_with fail
  refine(mrng_any m.blk 1 32 true c (decide_eq_true h2)).mono ?_
  rintro e g ⟨rfl,rfl⟩
  by_cases l:m.wr.length=80
  ·cases h5:smallB m.cid with
   |false=>
    have b:=jh (i.o (fun h=>by rw[h5]at h;cases h.2.2.2.2))
    go_wp2_with fail
    refine(mrng_any m.cid 0 2147483647 false c (by rw[small_rng,h5])).mono ?_
    rintro e g ⟨rfl,rfl⟩
    go_wp2_with fail
    go_ret
    exact⟨by rw[b.o];rfl,f.o⟩
   |true=>
    have b:=jh (Man.ok_of q.o d.o.1 d.o.2 l h5)
    go_wp2_with fail
    refine(mrng_any m.cid 0 2147483647 true c (by rw[small_rng,h5])).mono ?_
    rintro e g ⟨rfl,rfl⟩
    go_wp2_with fail
    go_ret
    exact⟨by rw[b.o];rfl,f.o⟩
  have b:=jh (i.o (fun h=>l h.2.2.2.1))
  have x:((m.wr.length:Int)==80)=false:=by simp;omega
  have B:decide ((m.wr.length:Int)=80)=false:=decide_eq_false (by omega)
  go_wp2_with fail
  go_ret
  exact⟨by rw[b.o];rfl,f.o⟩
 have b:=jh (i.o (fun h=>h2 ⟨h.2.1,h.2.2.1⟩))
 go_wp2_with fail
 refine(mrng_any m.blk 1 32 false c (decide_eq_false h2)).mono ?_
 rintro e g ⟨rfl,rfl⟩
 go_wp2_with fail
 go_ret
 exact⟨by rw[b.o];rfl,f.o⟩
section
variable {F:Nat→Prop}
theorem zdd {P:Program} {a:Act} {w:World} {Q:Exit→Act→World→Prop} {c rest:Code}(l:Nat)(b:findLabel c l=some rest)(h:c.wp P (Exit.jump l (fun a w=>rest.wp P (Exit.noGoto Q) a w) Q) a w):(Code.scope c).wp P Q a w:=
 wp_scope_jumps l _ (fun _ _=>0) b h (fun a w d=>Code.wp_mono (fun e a w h=>by cases e<;>first|exact h|exact absurd h (by simp[Exit.noGoto])) d)
theorem or_byteU(m a:Nat)(f:m<72057594037927936)(d:a<256):bits .or .u64 (IntKind.u64.wrap ((m:Int)*256)) (IntKind.u64.wrap (a:Int))=((m*256+a:Nat):Int):=by
 have c:(BitVec.ofInt 64 (IntKind.u64.wrap ((m:Int)*256))).toNat=m*256:=by
  rw[BitVec.toNat_ofInt,IntKind.wrap_u64]
  omega
 have e:(BitVec.ofInt 64 (IntKind.u64.wrap (a:Int))).toNat=a:=by
  rw[BitVec.toNat_ofInt,IntKind.wrap_u64]
  omega
 show IntKind.u64.wrap ((BitVec.ofInt 64 (IntKind.u64.wrap ((m:Int)*256))|||BitVec.ofInt 64 (IntKind.u64.wrap (a:Int))).toNat:Nat)=_
 rw[BitVec.toNat_or,c,e]
 have:=Nat.two_pow_add_eq_or_of_lt (i:=8) (b:=a) (by simpa using d) m
 rw[q120 m 256]
 have h2:256*m|||a=256*m+a:=this.symm
 rw[h2,IntKind.wrap_u64]
 omega
theorem number_any {v:Value} {l:List UInt8}(w:World)(z:Row1 w v (l.map bval))(c:8≤l.length):
  Calls Tryd.prog 30 #[v] w fun e B=>e=.returned (.int .i64 (decI (l.take 8)))∧w=B:=by
 obtain⟨a,A,rfl,h1,h2,t,h⟩:=z
 rw[q100]at h1⊢
 unfold maxLen at h2
 obtain⟨b,off,rfl,H,f⟩:=h (by intro e;have:=List.map_eq_nil_iff.1 e;subst this;simp at c)
 have j:∀k,k<8→w.cell? ⟨b,off+k,none⟩=some (.int .u8 (l.getD k 0).toNat):=by
  intro k y
  rw[f k (by simp;omega),List.getElem?_map,List.getElem?_eq_getElem (by omega)]
  simp[List.getD,show k<l.length from by omega,bval]
 obtain⟨C,q⟩:=jq2 j c
 have F:8≤A:=by omega
 clear t h f j c
 go_enter Tryd.func30,Tryd.ntmps30
 go_wp2_with fail
 go_loop [3,9] (fun s i=>∃k:Nat,k≤8∧i=.int .i64 k∧s=.int .u64 (accN (l.take k))) (fun _ i=>8 - (intOf i).toNat)
 case atStart=>exact⟨0,by omega,rfl,by rfl⟩
 case round=>
  obtain⟨k,y,rfl,rfl⟩:=hrel
  by_cases n:k<8
  ·have c:=q.o
   have c1:=C.o k n
   have G:(0:Int)≤(k:Int):=Int.natCast_nonneg _
   have I:(k:Int)<8:=by omega
   have u:=accN_lt (l.take k)
   have p:256^(l.take k).length≤256^7:=Nat.pow_le_pow_right (by omega) (by simp;omega)
   have r:(256:Nat)^7=72057594037927936:=by decide
   have g:=(l.getD k 0).toNat_lt
   have d:bits .or .u64 (IntKind.u64.wrap ((accN (l.take k):Int)*256)) (IntKind.u64.wrap ((l.getD k 0).toNat:Int))=(accN (l.take (k+1)):Int):=by
    rw[or_byteU _ _ (by omega) (by simpa using g),q128 (by omega),accN_snoc]
    simp[List.getD,show k<l.length from by omega]
   have x:=jh d
   clear u p r g d
   generalize (l.getD k 0).toNat=E at*
   generalize accN (l.take k)=m at*
   go_wp2_with fail
   go_round
   case rel=>exact⟨k+1,by omega,by go_num,by rw[x.o]⟩
   case measure=>simp[intOf];omega
  have D:k=8:=by omega
  subst D
  go_wp2_with fail
  go_ret
  exact⟨by unfold decI;rw[pck_i64wrap];rfl,rfl⟩
def PCurF(F:Nat→Prop)(w:World)(B c:Nat)(l:List UInt8)(p:Nat)(bad:Bool):Prop:=
 ∃v,Blk w c [v,.bool bad] 68∧c<B∧B≤w.heap.size∧p≤l.length∧l.length≤1099511627776∧(∀k,v.ownBlock=some k→(k<B∧F k)∧k≠c)∧
  (bad=true→v=.slice none 0 0)∧(bad=false→Row1 w v ((l.drop p).map bval))
theorem PCurF.keep {w a:World} {B c:Nat} {l:List UInt8} {p:Nat} {bad:Bool}(h:PCurF F w B c l p bad)(b:∀k,k<B→a.heap[k]? =w.heap[k]?)(f:w.heap.size≤a.heap.size):PCurF F a B c l p bad:=by
 obtain⟨v,h1,h2,g,j,n,d,m,i⟩:=h
 exact⟨v,h1.same (b c h2),h2,q118 g f,j,n,d,m,fun e=>(i e).same f fun p q _=>World.cell?_of_block (b p.block (d p.block q).1.1)⟩
theorem Row1.setFar {w:World} {v:Value} {a:List Value} {c i:Nat} {u:Value}(h:Row1 w v a)(b:v.ownBlock≠some c):Row1 (w.setCell ⟨c,i,none⟩ u) v a:=h.store b u
theorem PCurF.open(w:World) {B c:Nat} {l:List UInt8} {p:Nat} {bad:Bool}(h:PCurF F w B c l p bad):∃a len b,Blk w c [.slice a len b,.bool bad] 68∧c<B∧B≤w.heap.size∧p≤l.length∧l.length≤1099511627776∧(∀k,(Value.slice a len b).ownBlock=some k→(k<B∧F k)∧k≠c)∧
  (bad=true→a=none∧len=0∧b=0)∧(bad=false→Row1 w (.slice a len b) ((l.drop p).map bval)∧len=l.length - p∧len≤b∧b≤maxLen∧(a=none→b=0)):=by
 obtain⟨v,h1,h2,d,g,i,f,r,q⟩:=h
 cases bad with
 |true=>
  have:=r rfl
  subst this
  exact⟨none,0,0,h1,h2,d,g,i,f,(fun _=>⟨rfl,rfl,rfl⟩),(fun e=>by cases e)⟩
 |false=>
  have j:=q rfl
  obtain⟨a,b,rfl,n,m,s,t⟩:=id j
  exact⟨a,_,b,h1,h2,d,g,i,f,(fun e=>by cases e),(fun _=>⟨j,by simp,n,m,s⟩)⟩
theorem PCurF.spoilt {w a:World} {B c:Nat} {l:List UInt8} {p:Nat} {bad:Bool}(h:PCurF F w B c l p bad)(i:Blk a c [.slice none 0 0,.bool true] 68)(d:w.heap.size≤a.heap.size):PCurF F a B c l p true:=by
 obtain⟨v,h1,h2,b,f,g,m,q,n⟩:=h
 exact⟨_,i,h2,q118 b d,f,g,(fun k j=>by simp[Value.ownBlock]at j),(fun _=>rfl),(fun e=>by cases e)⟩
theorem Row1.rest {w:World} {ad:Addr} {len b:Nat} {a:List Value}(h:Row1 w (.slice (some ad) len b) a)(n:Nat)(g:n≤a.length):Row1 w (.slice (some (ad.add n)) (len - n) (b - n)) (a.drop n):=by
 obtain⟨a',d,e,h1,h2,c,f⟩:=id h
 cases e
 have:=h.sliced n (a.length - n) (by omega)
 rwa [q105 (by simp)]at this
theorem own_cut(ad:Addr)(n len a:Nat):(Value.slice (some (ad.add n)) (len - n) (a - n)).ownBlock=(Value.slice (some ad) len a).ownBlock:=by
 simp only[Value.ownBlock,Addr.add]
 split<;>rfl
theorem PCurF.moved {w a:World} {B c:Nat} {l:List UInt8} {p n:Nat} {v:Value}(h:PCurF F w B c l p false)(i:Blk a c [v,.bool false] 68)(d:w.heap.size≤a.heap.size)(j:∀k,v.ownBlock=some k→(k<B∧F k)∧k≠c)(m:Row1 a v (((l.drop p).drop n).map bval))(f:p+n≤l.length):PCurF F a B c l (p+n) false:=by
 obtain⟨q,h1,h2,b,t,g,r,u,s⟩:=h
 refine⟨v,i,h2,q118 b d,f,g,j,(fun e=>by cases e),(fun _=>?_)⟩
 rwa [List.drop_drop]at m
/-- read, of what there is not. -/
theorem pread_no(w:World)(B c:Nat)(l:List UInt8)(p:Nat)(bad:Bool)(n:Int)(h:PCurF F w B c l p bad)(hn:bad=true∨n<0∨(l.length:Int) - p<n):
  Calls Tryd.prog 29 #[.pointer (some ⟨c,0,none⟩),.int .i64 n,.bool false] w fun e w'=>e=.returned (.slice none 0 0)∧PCurF F w' B c l p true∧w.grownBy w' (some c):=by
 obtain⟨a,len,cap,g1,g2,g3,g4,g5,g6,g7,g8⟩:=h.open
 have c0:=g1.cell 0
 have c1:=g1.cell 1
 have f0:=g1.free 0
 have f1:=g1.free 1
 simp only[List.getElem?_cons_zero,List.getElem?_cons_succ]at c0 c1
 obtain⟨HP,HG⟩:=jq2 h g1
 cases bad with
 |true=>
  clear h g1 g6 g7 hn g8
  go_enter Tryd.func29,Tryd.ntmps29
  go_wp2_with fail
  refine zdd 0 (by rfl) ?_
  go_wp2_with fail
  go_step3
  refine⟨rfl,?_⟩
  go_wp2_with fail
  rw[Exit.noGoto_ret]
  go_ret
  exact⟨rfl,HP.o.spoilt ((HG.o.set 0 (.slice none 0 0)).set 1 (.bool true)) (by simp),zaz (zaz (zbc w _) 0 _) 1 _⟩
 |false=>
  obtain⟨g9,g10,g11,g12,g13⟩:=g8 rfl
  unfold maxLen at g12
  have hlenI:(len:Int)=(l.length:Int) - p:=by omega
  by_cases hneg:n<0
  ·clear h g1 g6 g7 hn g8 g9 g10 g13 hlenI
   go_enter Tryd.func29,Tryd.ntmps29
   go_wp2_with fail
   refine zdd 0 (by rfl) ?_
   go_wp2_with fail
   go_step3
   refine⟨rfl,?_⟩
   go_wp2_with fail
   rw[Exit.noGoto_ret]
   go_ret
   exact⟨rfl,HP.o.spoilt ((HG.o.set 0 (.slice none 0 0)).set 1 (.bool true)) (by simp),zaz (zaz (zbc w _) 0 _) 1 _⟩
  have h2:(len:Int)<n:=by
   rcases hn with h|h|h
   ·cases h
   ·exact absurd h hneg
   omega
  have hd:decide (n<0)=false:=decide_eq_false hneg
  clear h g1 g6 g7 hn g8 g9 g10 g13 hlenI hneg
  go_enter Tryd.func29,Tryd.ntmps29
  go_wp2_with fail
  refine zdd 0 (by rfl) ?_
  go_wp2_with fail
  go_step3
  refine⟨rfl,?_⟩
  go_wp2_with fail
  rw[Exit.noGoto_ret]
  go_ret
  exact⟨rfl,HP.o.spoilt ((HG.o.set 0 (.slice none 0 0)).set 1 (.bool true)) (by simp),zaz (zaz (zbc w _) 0 _) 1 _⟩
/-- read, of what there is. -/
theorem pread_yes(w:World)(B c:Nat)(l:List UInt8)(p n:Nat)(h:PCurF F w B c l p false)(hn:p+n≤l.length):
  Calls Tryd.prog 29 #[.pointer (some ⟨c,0,none⟩),.int .i64 n,.bool false] w fun e w'=>∃v,e=.returned v∧Row1 w' v (((l.drop p).take n).map bval)∧(∀k,v.ownBlock=some k→(k<B∧F k)∧k≠c)∧PCurF F w' B c l (p+n) false∧w.grownBy w' (some c):=by
 obtain⟨a,len,cap,g1,g2,g3,g4,g5,g6,g7,g8⟩:=h.open
 have c0:=g1.cell 0
 have c1:=g1.cell 1
 have f0:=g1.free 0
 have f1:=g1.free 1
 simp only[List.getElem?_cons_zero,List.getElem?_cons_succ]at c0 c1
 obtain⟨HP,HG⟩:=jq2 h g1
 obtain⟨g9,g10,g11,g12,g13⟩:=g8 rfl
 unfold maxLen at g12
 have hnl:n≤len:=by omega
 have hnc:n≤cap:=by omega
 have hd:decide ((n:Int)<0)=false:=decide_eq_false (by omega)
 have hd2:decide ((len:Int)<(n:Int))=false:=decide_eq_false (by omega)
 have hn0:(0:Int)≤(n:Int):=Int.natCast_nonneg _
 have hml:n≤((l.drop p).map bval).length:=by simp;omega
 obtain⟨HOWN,HN⟩:=jq2 g6 hn
 have HNE:Hid ((Value.slice a len cap).ownBlock≠some c):=jh fun e=>(g6 c e).2 rfl
 have HHEAD:=jh (g9.head n hml)
 rw[←List.map_take]at HHEAD
 cases a with
 |none=>
  have hc0:cap=0:=g13 rfl
  have hl0:len=0:=by omega
  have hn00:n=0:=by omega
  subst hc0 hl0 hn00
  have HREST:Hid (Row1 w (.slice none 0 0) (((l.drop p).drop 0).map bval)):=jh g9
  clear h g1 g6 g7 hn g8 g9 g10 g13 hml
  go_enter Tryd.func29,Tryd.ntmps29
  go_wp2_with fail
  refine zdd 0 (by rfl) ?_
  go_wp2_with fail
  go_region
  go_wp2_with fail
  simp only[Exit.jump]
  go_ret
  refine⟨_,rfl,HHEAD.o.drew.setFar HNE.o,HOWN.o,HP.o.moved (n:=0) ((HG.o.drewN 1).set 0 (.slice none 0 0)) (by simp) HOWN.o (HREST.o.drew.setFar HNE.o) HN.o,zaz (zbs (zbc w _) 1) 0 _⟩
 |some ad=>
  by_cases hc:n=cap
  ·subst hc
   have hln:len=n:=by omega
   subst hln
   have HREST:Hid (Row1 w (.slice (some ad) 0 0) (((l.drop p).drop len).map bval)):=jh (by
    rw[List.drop_of_length_le (by simp;omega)]
    exact Row1.empty w ad 0 (Nat.zero_le _))
   clear h g1 g6 g7 hn g8 g9 g10 g13 hml
   go_enter Tryd.func29,Tryd.ntmps29
   go_wp2_with fail
   refine zdd 0 (by rfl) ?_
   go_wp2_with fail
   go_region
   go_wp2_with fail
   simp only[Exit.jump]
   go_ret
   refine⟨_,rfl,HHEAD.o.drew.setFar HNE.o,HOWN.o,HP.o.moved (n:=len) ((HG.o.drewN 1).set 0 _) (by simp) HOWN.o (HREST.o.drew.setFar HNE.o) HN.o,zaz (zbs (zbc w _) 1) 0 _⟩
  have hcz:¬cap=n:=fun e=>hc e.symm
  have HREST:=jh (g9.rest n hml)
  rw[←List.map_drop]at HREST
  have HOWN2:Hid (∀k,(Value.slice (some (ad.add n)) (len - n) (cap - n)).ownBlock=some k→(k<B∧F k)∧k≠c):=jh (by rw[own_cut ad n len cap];exact g6)
  have HNE2:Hid ((Value.slice (some (ad.add n)) (len - n) (cap - n)).ownBlock≠some c):=jh (by rw[own_cut ad n len cap];exact HNE.o)
  clear h g1 g6 g7 hn g8 g9 g10 g13 hml
  go_enter Tryd.func29,Tryd.ntmps29
  go_wp2_with fail
  refine zdd 0 (by rfl) ?_
  go_wp2_with fail
  go_region
  go_wp2_with fail
  simp only[Exit.jump]
  go_ret
  refine⟨_,rfl,HHEAD.o.drew.setFar HNE.o,HOWN.o,HP.o.moved (n:=n) ((HG.o.drewN 1).set 0 _) (by simp) HOWN2.o (HREST.o.drew.setFar HNE2.o) HN.o,zaz (zbs (zbc w _) 1) 0 _⟩
end
section
variable {F:Nat→Prop}
theorem PCurF.lt {w:World} {B c:Nat} {l:List UInt8} {p:Nat} {bad:Bool}(h:PCurF F w B c l p bad):c<B∧B≤w.heap.size:=by
 obtain⟨v,h1,h2,a,_⟩:=h
 exact⟨h2,a⟩
theorem PCurF.grown {w b:World} {B c:Nat} {l:List UInt8} {p:Nat} {bad:Bool}(h:PCurF F w B c l p bad)(a:w.grownBy b none):PCurF F b B c l p bad:=
 h.keep (fun k d=>a.block k (q109 d h.lt.2) (by simp)) a.size
theorem pnewF(v:Value)(l:List UInt8)(w:World)(i:Row1 w v (l.map bval))(z:l.length≤1099511627776):
  Calls Tryd.prog 12 #[v] w fun e j=>∃B c,e=.returned (.pointer (some ⟨c,0,none⟩))∧PCurF (fun k=>w.heap.size≤k) j B c l 0 false∧w.heap.size≤c∧Below w.heap.size w j:=by
 obtain⟨s,p,n,q,u⟩:=info_parts Tryd.info5
 have m:=jh i
 have b:Hid ((l.map bval).length=l.length):=jh (by simp)
 clear i
 go_enter Tryd.func12,Tryd.ntmps12
 go_wp2_with (at_builtin;refine zad rfl _ _ 24 rfl w.heap.size 5 s (.int .u8 0) 1 Tryd.underlying24 p n q u rfl _ 0 [] rfl (World.ownsRow_nil _ _ _ _) rfl m.o (zac _) (by rw[b.o];unfold maxLen;omega) (by rw[b.o];omega) (q101 _) ?_;intro A a g x;obtain⟨D,C,rfl,_,_,_,_⟩:=id (Row1.of_own g))
 go_ret
 have f:=jh x
 rw[q116,b.o]at g
 have d:=jh g
 have y:Below w.heap.size w a:=(Below.refl _ _).grown f.o (q101 _) (fun r t=>by cases t)
 refine⟨a.heap.size+1,a.heap.size,rfl,⟨_,Blk.made _ _ _,by omega,by simp,Nat.zero_le _,z,?_,(fun e=>by cases e),(fun _=>?_)⟩,f.o.size,y.alloc f.o.size _⟩
 ·intro k h
  have h1:=(d.o.lt k h).1
  have h2:=(d.o.lt k h).2
  exact⟨⟨by omega,h1⟩,by omega⟩
 rw[List.drop_zero]
 exact(Row1.of_own d.o).alloc _
theorem PCurF.far {w d:World} {B c s:Nat} {l:List UInt8} {p:Nat} {bad:Bool}(h:PCurF F w B c l p bad)(a:w.grownBy d (some s))(q:s≠c)(i:¬F s):PCurF F d B c l p bad:=by
 obtain⟨v,h1,h2,f,j,n,b,m,g⟩:=h
 refine⟨v,h1.grown a (fun e=>q (Option.some.inj e)),h2,q118 f a.size,j,n,b,m,fun e=>(g e).grown a (fun k r t=>?_)⟩
 obtain rfl:s=k:=Option.some.inj r
 exact i (b _ t).1.2
theorem pint_no(w:World)(B c:Nat)(l:List UInt8)(p:Nat)(bad:Bool)(h:PCurF F w B c l p bad)(i:bad=true∨l.length<p+8):
  Calls Tryd.prog 14 #[.pointer (some ⟨c,0,none⟩)] w fun e g=>e=.returned (.int .i64 0)∧PCurF F g B c l p true∧w.grownBy g (some c):=by
 have j:=jh (pread_no w B c l p bad 8 h (i.elim Or.inl fun h=>Or.inr (Or.inr (by omega))))
 clear h i
 go_enter Tryd.func14,Tryd.ntmps14
 go_wp2_with fail
 refine j.o.mono ?_
 rintro e q ⟨rfl,b,d⟩
 obtain⟨a,len,n,f,_⟩:=b.open
 have c1:=f.cell 1
 simp only[List.getElem?_cons_zero,List.getElem?_cons_succ]at c1
 obtain⟨k,m⟩:=jq2 b d
 clear b d f
 go_wp2_with fail
 go_ret
 exact⟨rfl,k.o,m.o⟩
theorem pint_yes(w:World)(B c:Nat)(l:List UInt8)(p:Nat)(h:PCurF F w B c l p false)(k:p+8≤l.length):
  Calls Tryd.prog 14 #[.pointer (some ⟨c,0,none⟩)] w fun e b=>e=.returned (.int .i64 (decI ((l.drop p).take 8)))∧PCurF F b B c l (p+8) false∧w.grownBy b (some c):=by
 have m:=jh (pread_yes w B c l p 8 h k)
 have r:Hid (((l.drop p).take 8).length=8):=jh (by simp;omega)
 have ht:Hid (((l.drop p).take 8).take 8=(l.drop p).take 8):=jh (by rw[List.take_take];rfl)
 clear h k
 go_enter Tryd.func14,Tryd.ntmps14
 go_wp2_with fail
 refine m.o.mono ?_
 rintro e q ⟨v,rfl,g,_,f,j⟩
 obtain⟨a,len,u,i,_⟩:=f.open
 have c1:=i.cell 1
 simp only[List.getElem?_cons_zero,List.getElem?_cons_succ]at c1
 have d:=number_any q g (by rw[r.o];omega)
 rw[ht.o]at d
 obtain⟨s,n,t⟩:=jq3 d f j
 clear f j i g d
 go_wp2_with fail
 refine s.o.mono ?_
 rintro e b ⟨rfl,rfl⟩
 go_wp2_with fail
 go_ret
 exact⟨rfl,n.o,t.o⟩
theorem praw_no(w:World)(B c:Nat)(l:List UInt8)(p:Nat)(bad:Bool)(n:Int)(h:PCurF F w B c l p bad)(b:bad=true∨n<0∨(l.length:Int) - p<n):
  Calls Tryd.prog 13 #[.pointer (some ⟨c,0,none⟩),.int .i64 n] w fun e a=>∃v,e=.returned v∧a.ownsRow w.heap.size 5 1 v 0 []∧PCurF F a B c l p true∧w.grownBy a (some c):=by
 obtain⟨z,x,m,y,C⟩:=info_parts Tryd.info5
 have t:=jh (pread_no w B c l p bad n h b)
 clear h b
 go_enter Tryd.func13,Tryd.ntmps13
 go_wp2_with fail
 refine t.o.mono ?_
 rintro e q ⟨rfl,g,i⟩
 obtain⟨A,f⟩:=jq2 g i
 clear g i
 go_wp2_with (at_builtin;refine zad rfl _ _ 24 rfl w.heap.size 5 z (.int .u8 0) 1 Tryd.underlying24 x m y C rfl _ 0 [] rfl (World.ownsRow_nil _ _ _ _) rfl (Row1.nil q) (fun u s=>by cases s) (by unfold maxLen;simp) (by simp) f.o.size ?_;intro D E k j)
 obtain⟨r,d⟩:=jq2 k j
 clear k j
 go_wp2_with fail
 go_ret
 exact⟨_,rfl,r.o,A.o.grown d.o,grownBy_trans f.o (grownBy_of_none d.o)⟩
theorem praw_yes(w:World)(B c:Nat)(l:List UInt8)(p n:Nat)(h:PCurF F w B c l p false)(f:p+n≤l.length):
  Calls Tryd.prog 13 #[.pointer (some ⟨c,0,none⟩),.int .i64 n] w fun e b=>∃v,e=.returned v∧b.ownsRow w.heap.size 5 1 v n (((l.drop p).take n).map bval)∧PCurF F b B c l (p+n) false∧w.grownBy b (some c):=by
 obtain⟨C,z,t,A,E⟩:=info_parts Tryd.info5
 have x:=jh (pread_yes w B c l p n h f)
 have y:l.length≤1099511627776:=by obtain⟨v,_,_,_,_,s,_⟩:=h;exact s
 have a:Hid ((((l.drop p).take n).map bval).length=n):=jh (by simp;omega)
 have I:n≤1099511627776:=by omega
 clear h f y
 go_enter Tryd.func13,Tryd.ntmps13
 go_wp2_with fail
 refine x.o.mono ?_
 rintro e H ⟨v,rfl,k,_,j,m⟩
 obtain⟨r,D,i⟩:=jq3 k j m
 clear j m k
 go_wp2_with (at_builtin;refine zad rfl _ _ 24 rfl w.heap.size 5 C (.int .u8 0) 1 Tryd.underlying24 z t A E rfl _ 0 [] rfl (World.ownsRow_nil _ _ _ _) rfl r.o (zac _) (by rw[a.o];unfold maxLen;omega) (by rw[a.o];omega) i.o.size ?_;intro G J d q)
 rw[q116,a.o,q111]at d
 obtain⟨u,g⟩:=jq2 d q
 clear d q
 go_wp2_with fail
 go_ret
 exact⟨_,rfl,u.o,D.o.grown g.o,grownBy_trans i.o (grownBy_of_none g.o)⟩
theorem pend(w:World)(B c:Nat)(l:List UInt8)(p:Nat)(bad:Bool)(h:PCurF F w B c l p bad):
  Calls Tryd.prog 15 #[.pointer (some ⟨c,0,none⟩)] w fun e n=>e=.returned (.bool (!bad && decide (p=l.length)))∧∃k,n=w.drewN k:=by
 obtain⟨a,len,t,b,r,u,v,s,j,g,f⟩:=h.open
 have q:=b.cell 0
 have c1:=b.cell 1
 simp only[List.getElem?_cons_zero,List.getElem?_cons_succ]at q c1
 cases bad with
 |true=>
  clear h b j g f
  go_enter Tryd.func15,Tryd.ntmps15
  go_wp2_with fail
  go_ret
  exact⟨rfl,0,rfl⟩
 |false=>
  have m:=(f rfl).2.1
  by_cases d:p=l.length
  ·have h0:len=0:=by omega
   subst h0
   have i:Hid (decide (p=l.length)=true):=jh (decide_eq_true d)
   clear h b j g f d m
   go_enter Tryd.func15,Tryd.ntmps15
   go_wp2_with fail
   go_ret
   exact⟨by rw[i.o];rfl,0,rfl⟩
  have h0:((len:Int)==0)=false:=by simp;omega
  have i:Hid (decide (p=l.length)=false):=jh (decide_eq_false d)
  clear h b j g f d m
  go_enter Tryd.func15,Tryd.ntmps15
  go_wp2_with fail
  go_ret
  exact⟨by rw[i.o];rfl,0,rfl⟩
end
section
variable {F:Nat→Prop}
theorem pcur_raw {b:List UInt8}(w:World)(B c p n:Nat)(bad:Bool)(h:PCurF F w B c b p bad):
  Calls Tryd.prog 13 #[.pointer (some ⟨c,0,none⟩),.int .i64 (n:Int)] w fun e d=>∃v,e=.returned v∧d.ownsRow w.heap.size 5 1 v (rwL b p bad n).length ((rwL b p bad n).map bval)∧PCurF F d B c b (rwP b p bad n) (rwB b p bad n)∧w.grownBy d (some c):=by
 cases a:rwB b p bad n with
 |true=>
  have g:rwL b p bad n=[]:=by unfold rwL;rw[a];rfl
  have i:rwP b p bad n=p:=by unfold rwP;rw[a];rfl
  rw[g,i]
  unfold rwB at a
  rw[Bool.or_eq_true,decide_eq_true_iff]at a
  refine(praw_no w B c b p bad n h ?_).mono ?_
  ·rcases a with h|h
   ·exact Or.inl h
   exact Or.inr (Or.inr (by omega))
  rintro e d ⟨v,rfl,h1,h2,f⟩
  exact⟨v,rfl,h1,h2,f⟩
 |false=>
  have g:rwL b p bad n=(b.drop p).take n:=by unfold rwL;rw[a];rfl
  have i:rwP b p bad n=p+n:=by unfold rwP;rw[a];rfl
  unfold rwB at a
  rw[Bool.or_eq_false_iff,decide_eq_false_iff_not]at a
  obtain⟨rfl,a⟩:=a
  rw[g,i]
  refine(praw_yes w B c b p n h (by omega)).mono ?_
  rintro e d ⟨v,rfl,h1,h2,f⟩
  exact⟨v,rfl,by rw[show ((b.drop p).take n).length=n from by rw[q106,q113];omega];exact h1,h2,f⟩
theorem pcur_int {b:List UInt8}(w:World)(B c p:Nat)(bad:Bool)(h:PCurF F w B c b p bad):
  Calls Tryd.prog 14 #[.pointer (some ⟨c,0,none⟩)] w fun e g=>e=.returned (.int .i64 (rwI b p bad))∧PCurF F g B c b (rwP b p bad 8) (rwB b p bad 8)∧w.grownBy g (some c):=by
 cases a:rwB b p bad 8 with
 |true=>
  have f:rwI b p bad=0:=by unfold rwI;rw[a];rfl
  have d:rwP b p bad 8=p:=by unfold rwP;rw[a];rfl
  rw[f,d]
  unfold rwB at a
  rw[Bool.or_eq_true,decide_eq_true_iff]at a
  exact pint_no w B c b p bad h a
 |false=>
  have f:rwI b p bad=decI ((b.drop p).take 8):=by unfold rwI;rw[a];rfl
  have d:rwP b p bad 8=p+8:=by unfold rwP;rw[a];rfl
  unfold rwB at a
  rw[Bool.or_eq_false_iff,decide_eq_false_iff_not]at a
  obtain⟨rfl,a⟩:=a
  rw[f,d]
  exact pint_yes w B c b p h (by omega)
end
section
variable {F:Nat→Prop}
def PQ(F:Nat→Prop)(w:World)(B c:Nat)(b:List UInt8)(q:Nat):Prop:=∃p d,PCurF F w B c b p d∧Cur b q p d
theorem PQ.lt {w:World} {B c q:Nat} {b:List UInt8}(h:PQ F w B c b q):c<w.heap.size:=by
 obtain⟨p,d,h,_⟩:=h
 have:=h.lt
 omega
theorem PQ.far {w a:World} {B c s q:Nat} {b:List UInt8}(h:PQ F w B c b q)(e:w.grownBy a (some s))(f:s≠c)(g:¬F s):PQ F a B c b q:=by
 obtain⟨p,d,h1,h2⟩:=h
 exact⟨p,d,h1.far e f g,h2⟩
theorem PQ.ext {w a:World} {B c q:Nat} {b:List UInt8}(h:PQ F w B c b q)(e:Ext w a):PQ F a B c b q:=by
 obtain⟨p,d,h1,h2⟩:=h
 exact⟨p,d,h1.keep (fun k f=>e.block k (q109 f h1.lt.2)) e.size,h2⟩
theorem pq_new(v:Value)(l:List UInt8)(w:World)(d:Row1 w v (l.map bval))(b:l.length≤1099511627776):
  Calls Tryd.prog 12 #[v] w fun e a=>∃B c,e=.returned (.pointer (some ⟨c,0,none⟩))∧PQ (fun k=>w.heap.size≤k) a B c l 0∧w.heap.size≤c∧Below w.heap.size w a:=
 (pnewF v l w d b).mono fun e a ⟨B,c,h1,h2,h3⟩=>⟨B,c,h1,⟨0,false,h2,Cur.start l⟩,h3⟩
theorem pq_raw {b:List UInt8}(w:World)(B c q n:Nat)(h:PQ F w B c b q):
  Calls Tryd.prog 13 #[.pointer (some ⟨c,0,none⟩),.int .i64 (n:Int)] w fun e a=>∃v,e=.returned v∧a.ownsRow w.heap.size 5 1 v (cuL b q n).length ((cuL b q n).map bval)∧PQ F a B c b (q+n)∧w.grownBy a (some c):=by
 obtain⟨p,d,h1,h2⟩:=h
 rw[←h2.list n]
 exact(pcur_raw w B c p n d h1).mono fun e a ⟨v,e1,e2,e3,e4⟩=>⟨v,e1,e2,⟨_,_,e3,h2.next n⟩,e4⟩
theorem pq_int {b:List UInt8}(w:World)(B c q:Nat)(h:PQ F w B c b q):
  Calls Tryd.prog 14 #[.pointer (some ⟨c,0,none⟩)] w fun e a=>e=.returned (.int .i64 (cuI b q))∧PQ F a B c b (q+8)∧w.grownBy a (some c):=by
 obtain⟨p,d,h1,h2⟩:=h
 rw[←h2.int]
 exact(pcur_int w B c p d h1).mono fun e a ⟨e1,e3,e4⟩=>⟨e1,⟨_,_,e3,h2.next 8⟩,e4⟩
theorem pq_end {b:List UInt8}(w:World)(B c q:Nat)(h:PQ F w B c b q):
  Calls Tryd.prog 15 #[.pointer (some ⟨c,0,none⟩)] w fun e a=>e=.returned (.bool (decide (b.length=q)))∧Ext w a:=by
 obtain⟨p,d,h1,h2⟩:=h
 rw[←h2.ends]
 refine(pend w B c b p d h1).mono fun e a h=>⟨h.1,?_⟩
 obtain⟨k,rfl⟩:=h.2
 exact below_drewN (Below.refl _ _) k
end
theorem mRead_any(b:List UInt8)(R:Value)(w:World)(z:Row1 w R (b.map bval))(ab:b.length≤1000000):
  Calls Tryd.prog 6 #[R] w fun e w'=>∃wv,e=.returned (.tuple #[.agg (manC (readM b) wv).toArray,.int .i64 (readE b)])∧Row1 w' wv ((readM b).wr.map bval)∧Below w.heap.size w w':=by
 have HV:=jh z
 have aa:Hid (b.length≤1099511627776):=jh (by omega)
 have HB:=jh (boxes2 w (manC manZ (.slice none 0 0)) (manC manZ (.slice none 0 0)) 30 30)
 have x:=jh (fun h=>mread_none (@mread_no b h))
 have D:=jh (fun h1 h2 h3=>mread_is (@mread_yes b h1 h2 h3))
 have E:=jh (zdc zcy (.slice none 0 0))
 clear z ab
 go_enter Tryd.func6,Tryd.ntmps6
 go_wp2_with fail
 refine zdd 0 (by rfl) ?_
 go_upto_region 2 with(fail)
 obtain⟨h1,h2,hE⟩:=HB.o
 change Code.wp _ _ _ _ ((w.alloc (.cells (manC manZ (.slice none 0 0)).toArray 30)).alloc (.cells (manC manZ (.slice none 0 0)).toArray 30))
 have a1:((w.alloc (.cells (manC manZ (.slice none 0 0)).toArray 30)).alloc (.cells (manC manZ (.slice none 0 0)).toArray 30)).heap.size=w.heap.size+1+1:=by simp
 generalize (w.alloc (.cells (manC manZ (.slice none 0 0)).toArray 30)).alloc (.cells (manC manZ (.slice none 0 0)).toArray 30)=I at*
 obtain⟨S,Z⟩:=nxq (w.heap.size+1)
 rw[←Z]at h2 a1⊢
 obtain⟨C,hC⟩:=nxq w.heap.size
 rw[←hC]at h1⊢
 have HO:Hid (w.heap.size=C∧S=C+1∧I.heap.size=S+1):=jh (by omega)
 obtain⟨H1,H2⟩:=jq2 h1 h2
 have Y:Hid (Ext w I):=jh hE
 clear h1 h2 hE a1 Z hC HB
 have HN:=jh (pq_new R b I (HV.o.below Y.o) aa.o)
 go_wp2_with fail
 refine HN.o.mono ?_
 rintro e w1 ⟨B,K,rfl,i,ae,L⟩
 have y:Hid (¬(I.heap.size≤S)):=jh (by have:=HO.o;omega)
 have c:Hid (RM w w1 C K S manZ (.slice none 0 0) (.slice none 0 0) []):=jh (by
  have h1:=HO.o
  refine⟨Y.o.trans L,zcy,zal H1.o L,zal H2.o L,Row1.nil _,(fun k e=>by cases e),Row1.nil _,(fun k e=>by cases e),by omega,by omega,by omega,by omega,by omega,by omega⟩)
 have d:=jh i
 clear i ae L HN H1 H2 Y
 go_wp2_with fail
 refine(pq_raw w1 B K 0 4 d.o).mono ?_
 rintro e w2 ⟨tv,rfl,l,i,f⟩
 have W:=run_string_row (P:=Tryd.prog) (v:=tv) 24 9 5 Tryd.underlying24 Tryd.underlying5 Tryd.underlying9 (Row1.of_own l)
 obtain⟨d,c⟩:=jq2 i (c.o.grow f)
 clear l i f
 obtain⟨tl,a4⟩:=nxq (cuL b 0 4)
 rw[←a4]at x D W
 clear a4
 by_cases r:tl=[80,67,77,49]
 ·have ac:=jh r
  subst r
  go_wp2_with fail
  refine(pq_int w2 B K 4 d.o).mono ?_
  rintro e w3 ⟨rfl,i,f⟩
  obtain⟨d,c⟩:=jq2 i (c.o.grow f)
  clear i f
  go_wp2_with fail
  refine(pq_int w3 B K 12 d.o).mono ?_
  rintro e w4 ⟨rfl,i,f⟩
  obtain⟨d,c⟩:=jq2 i (c.o.grow f)
  clear i f
  obtain⟨ov,H,F⟩:=c.o.see 0 (by omega)
  obtain⟨ow,af,ad⟩:=c.o.see 1 (by omega)
  clear W
  go_upto_region 5 with(fail)
  obtain⟨r,f⟩:=c.o.cell0 (cuI b 4)
  have d:=jh (d.o.far f c.o.oc.2.2.2.2.2.symm y.o)
  obtain⟨U,a5⟩:=r.cell1 (cuI b 12)
  obtain⟨d,c⟩:=jq2 (d.o.far a5 r.oc.2.2.2.2.2.symm y.o) U
  clear r f U a5 H F af ad
  generalize (w4.setCell ⟨S,0,none⟩ (.int .i64 (cuI b 4))).setCell ⟨S,1,none⟩ (.int .i64 (cuI b 12))=w5 at*
  refine wp_region_held_drew (S:=fun _=>True) (by kernel_rfl) trivial (fun g=>?_)
  refine tke 0 (.pointer (some ⟨S,2,none⟩)) rfl (zbb (.pointer (some ⟨S,2,none⟩)) (by rfl) (fun w _=>by go_simp)) g ?_
  simp only[nm]
  refine tke 1 (.slice (some ⟨S,2,none⟩) 32 32) rfl (zcd _ _ _ _ (.pointer (some ⟨S,2,none⟩)) (.slice (some ⟨S,2,none⟩) 32 32) none none (by rfl) rfl rfl rfl rfl (fun w=>cut_part Tryd.underlying23 Tryd.sizeOf5 (by omega) _ _ w)) g ?_
  simp only[nm]
  refine tke 2 (.pointer (some ⟨K,0,none⟩)) rfl (zba _ (.pointer (some ⟨K,0,none⟩)) (by rfl) rfl rfl) g ?_
  simp only[nm]
  refine wpAnyH_ready (rs:=[3]) (by kernel_rfl) (by simp) (AllReadyH.cons rfl (fun K0 j=>?_) AllReadyH.nil)
  go_simp
  have c:=jh (c.o.below (Ext.drew w5))
  refine(pq_raw w5.drew B K 20 32 (d.o.ext (Ext.drew _))).mono ?_
  rintro e w6 ⟨T,rfl,l,i,f⟩
  have q:=Row1.of_own l
  obtain⟨O,N,s,_⟩:=id q
  rw[q100]at s
  subst s
  obtain⟨t,d,c⟩:=jq3 q i (c.o.grow f)
  clear q l i f
  refine j.o _ _ trivial (fun g=>?_)
  clear j K0
  try simp only[nm]
  refine wpAnyH_ready (rs:=[4]) (by kernel_rfl) (by simp) (AllReadyH.cons rfl (fun K0 j=>?_) AllReadyH.nil)
  refine zan (by rfl) ?_
  refine zcf _ _ 24 24 rfl 5 Tryd.underlying24 one_u8m _ _ _ _ _ _ rfl rfl S 2 _ _ c.o.hs ((cuL b 20 32).map bval) (by rw[q100];exact(q134 zdx).symm) (fun h=>⟨rfl,row_src t.o (cuL b 20 32) (by rw[q125]) (q101 _) (Ext.refl _) h⟩) (by have:=@zdx b 20 32;rw[q100,zbd c.o.arr];omega) (zac _) ?_
  intro w7 n p
  rw[cu_root (a:=c.o.arr) rfl]at n
  have d:=jh (d.o.far p c.o.oc.2.2.2.2.2.symm y.o)
  have c:=jh (c.o.put p n (put_root c.o.arr (cuN_length _ _ _)) rfl)
  clear n p t
  refine j.o _ _ trivial (fun g=>?_)
  clear j K0 g
  try simp only[nm]
  refine dne ?_
  go_wp2_with fail
  refine(pq_raw w7 B K 52 80 d.o).mono ?_
  rintro e w8 ⟨xv,rfl,l,i,f⟩
  obtain⟨a0,M,d,c⟩:=jq4 (c.o.fresh d.o.lt l.lt) (Row1.of_own l) i (c.o.grow f)
  clear l i f
  obtain⟨xa,xc,a2,_⟩:=id M.o
  rw[q100]at a2
  subst a2
  obtain⟨ov,H,F⟩:=c.o.see 34 (by omega)
  go_upto_region 7 with(fail)
  obtain⟨r,f⟩:=c.o.cell34 M.o a0.o
  obtain⟨d,c⟩:=jq2 (d.o.far f c.o.oc.2.2.2.2.2.symm y.o) r
  clear r f H F M a0
  generalize w8.setCell ⟨S,34,none⟩ (.slice xa (cuL b 52 80).length xc)=w9 at*
  generalize Value.slice xa (cuL b 52 80).length xc=wv at*
  go_wp2_with fail
  refine(pq_int w9 B K 132 d.o).mono ?_
  rintro e ah ⟨rfl,i,f⟩
  obtain⟨d,c⟩:=jq2 i (c.o.grow f)
  clear i f
  obtain⟨ov,H,F⟩:=c.o.see 35 (by omega)
  go_upto_region 8 with(fail)
  obtain⟨r,f⟩:=c.o.cell35 (cuI b 132)
  obtain⟨d,c⟩:=jq2 (d.o.far f c.o.oc.2.2.2.2.2.symm y.o) r
  clear r f H F
  generalize ah.setCell ⟨S,35,none⟩ (.int .i64 (cuI b 132))=a8 at*
  refine wp_region_held_drew (S:=fun _=>True) (by kernel_rfl) trivial (fun g=>?_)
  refine tke 0 (.pointer (some ⟨S,35,none⟩)) rfl (zbb (.pointer (some ⟨S,35,none⟩)) (by rfl) (fun w _=>by go_simp)) g ?_
  simp only[nm]
  refine tke 1 (.pointer (some ⟨S,36,none⟩)) rfl (zbb (.pointer (some ⟨S,36,none⟩)) (by rfl) (fun w _=>by go_simp)) g ?_
  simp only[nm]
  refine tke 2 (.slice (some ⟨S,36,none⟩) 32 32) rfl (zcd _ _ _ _ (.pointer (some ⟨S,36,none⟩)) (.slice (some ⟨S,36,none⟩) 32 32) none none (by rfl) rfl rfl rfl rfl (fun w=>cut_part Tryd.underlying23 Tryd.sizeOf5 (by omega) _ _ w)) g ?_
  simp only[nm]
  refine tke 3 (.pointer (some ⟨K,0,none⟩)) rfl (zba _ (.pointer (some ⟨K,0,none⟩)) (by rfl) rfl rfl) g ?_
  simp only[nm]
  refine wpAnyH_ready (rs:=[4]) (by kernel_rfl) (by simp) (AllReadyH.cons rfl (fun K0 j=>?_) AllReadyH.nil)
  go_simp
  have c:=jh (c.o.below (Ext.drew a8))
  refine(pq_raw a8.drew B K 140 32 (d.o.ext (Ext.drew _))).mono ?_
  rintro e ai ⟨T,rfl,l,i,f⟩
  have q:=Row1.of_own l
  obtain⟨O,N,s,_⟩:=id q
  rw[q100]at s
  subst s
  obtain⟨t,d,c⟩:=jq3 q i (c.o.grow f)
  clear q l i f
  refine j.o _ _ trivial (fun g=>?_)
  clear j K0
  try simp only[nm]
  refine wpAnyH_ready (rs:=[5]) (by kernel_rfl) (by simp) (AllReadyH.cons rfl (fun K0 j=>?_) AllReadyH.nil)
  refine zan (by rfl) ?_
  refine zcf _ _ 24 24 rfl 5 Tryd.underlying24 one_u8m _ _ _ _ _ _ rfl rfl S 36 _ _ c.o.hs ((cuL b 140 32).map bval) (by rw[q100];exact(q134 zdx).symm) (fun h=>⟨rfl,row_src t.o (cuL b 140 32) (by rw[q125]) (q101 _) (Ext.refl _) h⟩) (by have:=@zdx b 140 32;rw[q100,zbd c.o.arr];omega) (zac _) ?_
  intro a7 n p
  rw[cu_ckey (a:=c.o.arr) rfl]at n
  have d:=jh (d.o.far p c.o.oc.2.2.2.2.2.symm y.o)
  have c:=jh (c.o.put p n (put_ckey c.o.arr (cuN_length _ _ _)) rfl)
  clear n p t
  refine j.o _ _ trivial (fun g=>?_)
  clear j K0 g
  try simp only[nm]
  refine dne ?_
  go_wp2_with fail
  go_upto_region 9 with(fail)
  refine wp_region_held_drew (S:=fun _=>True) (by kernel_rfl) trivial (fun g=>?_)
  refine tke 0 (.pointer (some ⟨S,35,none⟩)) rfl (zbb (.pointer (some ⟨S,35,none⟩)) (by rfl) (fun w _=>by go_simp)) g ?_
  simp only[nm]
  refine tke 1 (.pointer (some ⟨S,68,none⟩)) rfl (zbb (.pointer (some ⟨S,68,none⟩)) (by rfl) (fun w _=>by go_simp)) g ?_
  simp only[nm]
  refine tke 2 (.slice (some ⟨S,68,none⟩) 64 64) rfl (zcd _ _ _ _ (.pointer (some ⟨S,68,none⟩)) (.slice (some ⟨S,68,none⟩) 64 64) none none (by rfl) rfl rfl rfl rfl (fun w=>cut_part Tryd.underlying26 Tryd.sizeOf5 (by omega) _ _ w)) g ?_
  simp only[nm]
  refine tke 3 (.pointer (some ⟨K,0,none⟩)) rfl (zba _ (.pointer (some ⟨K,0,none⟩)) (by rfl) rfl rfl) g ?_
  simp only[nm]
  refine wpAnyH_ready (rs:=[4]) (by kernel_rfl) (by simp) (AllReadyH.cons rfl (fun K0 j=>?_) AllReadyH.nil)
  go_simp
  have c:=jh (c.o.below (Ext.drew a7))
  refine(pq_raw a7.drew B K 172 64 (d.o.ext (Ext.drew _))).mono ?_
  rintro e ak ⟨T,rfl,l,i,f⟩
  have q:=Row1.of_own l
  obtain⟨O,N,s,_⟩:=id q
  rw[q100]at s
  subst s
  obtain⟨t,d,c⟩:=jq3 q i (c.o.grow f)
  clear q l i f
  refine j.o _ _ trivial (fun g=>?_)
  clear j K0
  try simp only[nm]
  refine wpAnyH_ready (rs:=[5]) (by kernel_rfl) (by simp) (AllReadyH.cons rfl (fun K0 j=>?_) AllReadyH.nil)
  refine zan (by rfl) ?_
  refine zcf _ _ 24 24 rfl 5 Tryd.underlying24 one_u8m _ _ _ _ _ _ rfl rfl S 68 _ _ c.o.hs ((cuL b 172 64).map bval) (by rw[q100];exact(q134 zdx).symm) (fun h=>⟨rfl,row_src t.o (cuL b 172 64) (by rw[q125]) (q101 _) (Ext.refl _) h⟩) (by have:=@zdx b 172 64;rw[q100,zbd c.o.arr];omega) (zac _) ?_
  intro a9 n p
  rw[cu_csig (a:=c.o.arr) rfl]at n
  have d:=jh (d.o.far p c.o.oc.2.2.2.2.2.symm y.o)
  have c:=jh (c.o.put p n (put_csig c.o.arr (cuN_length _ _ _)) rfl)
  clear n p t
  refine j.o _ _ trivial (fun g=>?_)
  clear j K0 g
  try simp only[nm]
  refine dne ?_
  go_wp2_with fail
  go_upto_region 10 with(fail)
  refine wp_region_held_drew (S:=fun _=>True) (by kernel_rfl) trivial (fun g=>?_)
  refine tke 0 (.pointer (some ⟨S,132,none⟩)) rfl (zbb (.pointer (some ⟨S,132,none⟩)) (by rfl) (fun w _=>by go_simp)) g ?_
  simp only[nm]
  refine tke 1 (.slice (some ⟨S,132,none⟩) 64 64) rfl (zcd _ _ _ _ (.pointer (some ⟨S,132,none⟩)) (.slice (some ⟨S,132,none⟩) 64 64) none none (by rfl) rfl rfl rfl rfl (fun w=>cut_part Tryd.underlying26 Tryd.sizeOf5 (by omega) _ _ w)) g ?_
  simp only[nm]
  refine tke 2 (.pointer (some ⟨K,0,none⟩)) rfl (zba _ (.pointer (some ⟨K,0,none⟩)) (by rfl) rfl rfl) g ?_
  simp only[nm]
  refine wpAnyH_ready (rs:=[3]) (by kernel_rfl) (by simp) (AllReadyH.cons rfl (fun K0 j=>?_) AllReadyH.nil)
  go_simp
  have c:=jh (c.o.below (Ext.drew a9))
  refine(pq_raw a9.drew B K 236 64 (d.o.ext (Ext.drew _))).mono ?_
  rintro e al ⟨T,rfl,l,i,f⟩
  have q:=Row1.of_own l
  obtain⟨O,N,s,_⟩:=id q
  rw[q100]at s
  subst s
  obtain⟨t,d,c⟩:=jq3 q i (c.o.grow f)
  clear q l i f
  refine j.o _ _ trivial (fun g=>?_)
  clear j K0
  try simp only[nm]
  refine wpAnyH_ready (rs:=[4]) (by kernel_rfl) (by simp) (AllReadyH.cons rfl (fun K0 j=>?_) AllReadyH.nil)
  refine zan (by rfl) ?_
  refine zcf _ _ 24 24 rfl 5 Tryd.underlying24 one_u8m _ _ _ _ _ _ rfl rfl S 132 _ _ c.o.hs ((cuL b 236 64).map bval) (by rw[q100];exact(q134 zdx).symm) (fun h=>⟨rfl,row_src t.o (cuL b 236 64) (by rw[q125]) (q101 _) (Ext.refl _) h⟩) (by have:=@zdx b 236 64;rw[q100,zbd c.o.arr];omega) (zac _) ?_
  intro a3 n p
  rw[cu_sig (a:=c.o.arr) rfl]at n
  have d:=jh (d.o.far p c.o.oc.2.2.2.2.2.symm y.o)
  have c:=jh (c.o.put p n (put_sig c.o.arr (cuN_length _ _ _)) rfl)
  clear n p t
  refine j.o _ _ trivial (fun g=>?_)
  clear j K0 g
  try simp only[nm]
  refine dne ?_
  have c:Hid (RM w a3 C K S (manU b) wv (.slice none 0 0) []):=c
  obtain⟨J,X⟩:=jq2 c.o.size (pq_end a3 B K 300 d.o)
  obtain⟨en,V⟩:=nxq (decide (b.length=300))
  rw[←V]at X
  have G:=jh V
  clear V
  go_wp2_with fail
  refine X.o.mono ?_
  rintro e ag ⟨rfl,z⟩
  have c:=jh (c.o.below z)
  clear z X d
  cases en with
  |false=>
   have m:=jh (x.o (fun h=>by have:=of_decide_eq_false G.o.symm;exact this h.2.1))
   clear G x D
   go_wp2_with fail
   go_step3
   refine⟨rfl,?_⟩
   go_wp2_with (first|(refine zcu rfl _ _ rfl _ rfl _ (build_man0 _) ?_)|(refine ssb C (manC manZ (.slice none 0 0)) c.o.hc rfl E.o (zed rfl) ?_;intro Q A u))
   rw[Exit.noGoto_ret]
   refine bodyPost_ret (zaw rfl _ C _ _ _ rfl A Tryd.underlying30 rfl E.o) rfl ?_
   exact⟨.slice none 0 0,by rw[m.o.1,m.o.2];rfl,by rw[m.o.1];exact Row1.nil _,zab c.o.ext u c.o.oc.1⟩
  |true=>
   have a6:=jh (mval_any (manU b) wv ag c.o.arr c.o.hw)
   go_wp2_with (refine zdz (by rfl) _ _ rfl S 0 rfl _ _ c.o.hs.range Tryd.underlying30 J.o ?_)
   refine a6.o.mono ?_
   rintro e aj ⟨rfl,z⟩
   have c:=jh (c.o.below z)
   clear z a6
   cases hok:(manU b).ok with
   |false=>
    have m:=jh (x.o (fun h=>by rw[hok]at h;cases h.2.2))
    clear G x D hok
    go_wp2_with fail
    go_step3
    refine⟨rfl,?_⟩
    go_wp2_with (first|(refine zcu rfl _ _ rfl _ rfl _ (build_man0 _) ?_)|(refine ssb C (manC manZ (.slice none 0 0)) c.o.hc rfl E.o (zed rfl) ?_;intro Q A u))
    rw[Exit.noGoto_ret]
    refine bodyPost_ret (zaw rfl _ C _ _ _ rfl A Tryd.underlying30 rfl E.o) rfl ?_
    exact⟨.slice none 0 0,by rw[m.o.1,m.o.2];rfl,by rw[m.o.1];exact Row1.nil _,zab c.o.ext u c.o.oc.1⟩
   |true=>
    have m:=jh (D.o ac.o (of_decide_eq_true G.o.symm) hok)
    clear G x D hok
    go_wp2_with (first|(refine wpList_load_mid rfl _ _ rfl S 0 rfl _ _ c.o.hs.range Tryd.underlying30 rfl J.o ?_)|(refine ssb C (manC (manU b) wv) c.o.hc (by rw[zbd c.o.arr,zbd zcy]) J.o (zed (row_cell c.o.hw)) ?_;intro Q A u))
    simp only[Exit.jump]
    refine bodyPost_ret (zaw rfl _ C _ _ _ rfl A Tryd.underlying30 rfl J.o) rfl ?_
    exact⟨wv,by rw[m.o.1,m.o.2];rfl,by rw[m.o.1];exact c.o.hw.grown u (fun k e e2=>(c.o.hwo k e2).1 (Option.some.inj e).symm),zab c.o.ext u c.o.oc.1⟩
 have m:=jh (x.o (fun h=>r h.1))
 have U:(tl==[80,67,77,49])=false:=by simpa using r
 clear x D
 go_wp2_with fail
 go_step3
 refine⟨rfl,?_⟩
 go_wp2_with (first|(refine zcu rfl _ _ rfl _ rfl _ (build_man0 _) ?_)|(refine ssb C (manC manZ (.slice none 0 0)) c.o.hc rfl E.o (zed rfl) ?_;intro Q A u))
 rw[Exit.noGoto_ret]
 refine bodyPost_ret (zaw rfl _ C _ _ _ rfl A Tryd.underlying30 rfl E.o) rfl ?_
 exact⟨.slice none 0 0,by rw[m.o.1,m.o.2];rfl,by rw[m.o.1];exact Row1.nil _,zab c.o.ext u c.o.oc.1⟩
theorem num17(n:Int)(w:World):Calls Tryd.prog 7 #[.int .i64 n] w fun e a=>e=.returned (.int .i64 n)∧w=a:=by
 go_enter Tryd.func7,Tryd.ntmps7
 go_wp2_with fail
 go_ret
 exact⟨rfl,rfl⟩
theorem read_nil:readM []=manZ∧readE []=4:=mread_none (manR_long (by decide))
def GI(w:World):Prop:=GlobK w∧GV w
theorem GI.ext {w a:World}(h:GI w)(b:Ext w a):GI a:=⟨h.1.ext b,h.2.ext b⟩
theorem alive_any17(w:World)(E:GI w):Calls Tryd.prog 4 #[] w fun e B=>e=.returned (.bool true)∧Below w.heap.size w B:=by
 have z:=jh E
 have y:=jh (mRead_any [] (.slice none 0 0) w (Row1.nil _) (by decide))
 rw[read_nil.1,read_nil.2]at y
 obtain⟨c,d⟩:=nxq (issM (setRoot 1) (setSign 1) (setDev 1) (setKey 1) 1 2 [])
 have k:Hid c.Arr:=jh (by rw[d];exact issM_arr _ _ _ _ _ _ _)
 have u:c.ok=true:=by rw[d];exact issM_ok (by decide) (by decide) (by simp)
 have C:=jh (mread_is (manR_pack k.o u))
 have I:Hid (c.pack.length=300):=jh (Man.pack_length k.o (Man.ok_all u).2.2.2.1)
 have M:Hid (c.ver=2):=jh (by rw[d];rfl)
 have L:Hid (c.blk=1):=jh (by rw[d];rfl)
 have P:=jh d
 clear E d u
 go_enter Tryd.func4,Tryd.ntmps4
 go_wp2_with fail
 refine y.o.mono ?_
 rintro e l ⟨wv,rfl,r,b⟩
 have j:=jh r
 have a:Hid (Ext w l):=jh b
 clear r b y
 obtain⟨s,p,h⟩:=jq3 (Blk.made l (manC manZ (.slice none 0 0)) 30) (Ext.alloc l (.cells (manC manZ (.slice none 0 0)).toArray 30)) (zdc zcy wv)
 have q:Hid ((manC manZ wv).length=(manC manZ (.slice none 0 0)).length):=jh (by rw[zbd zcy,zbd zcy])
 have f:=jh (zed (m:=manZ) (row_cell j.o))
 go_upto_region 2 with(refine ssb l.heap.size (manC manZ wv) s.o q.o h.o f.o ?_;intro O n i)
 have N:=jh n
 have g:=jh (zab p.o i (q101 _))
 have a:=xxt a g.o
 generalize l.heap.size=R at*
 clear n i s p h q f
 clear j N g
 go_wp2_with fail
 refine(rSetOf_any 1 O (z.o.1.ext a.o)).mono ?_
 rintro e Q ⟨rfl,b⟩
 have a:=xxt a b
 clear b
 go_wp2_with fail
 refine(rManifest_nil (setRoot 1) (setSign 1) (setDev 1) (setKey 1) 1 2 Q (zak _ _) (zak _ _) (zak _ _) (zak _ _) (by decide) (by decide) (z.o.1.ext a.o) (z.o.2.ext a.o)).mono ?_
 rintro e K ⟨x,S,rfl,v,b⟩
 rw[←P.o]at v
 have D:=jh (Row1.of_own v)
 have a:=xxt a b
 clear v b
 have A:=jh (mRead_any c.pack x K D.o (by rw[I.o];decide))
 rw[C.o.1,C.o.2]at A
 go_wp2_with fail
 refine A.o.mono ?_
 rintro e t ⟨wv,rfl,r,b⟩
 have j:=jh r
 have a:=xxt a b
 clear r b A D
 obtain⟨s,p,h⟩:=jq3 (Blk.made t (manC manZ (.slice none 0 0)) 30) (Ext.alloc t (.cells (manC manZ (.slice none 0 0)).toArray 30)) (zdc k.o wv)
 have q:Hid ((manC c wv).length=(manC manZ (.slice none 0 0)).length):=jh (by rw[zbd k.o,zbd zcy])
 have f:=jh (zed (m:=c) (row_cell j.o))
 go_upto_region 4 with(refine ssb t.heap.size (manC c wv) s.o q.o h.o f.o ?_;intro F n i)
 have G:=jh n
 have g:=jh (zab p.o i (q101 _))
 have a:=xxt a g.o
 generalize t.heap.size=T at*
 clear n i s p h q f
 obtain⟨H,J,_⟩:=man_parts G.o k.o
 rw[M.o]at H
 rw[L.o]at J
 clear j G g
 go_wp2_with fail
 refine(num17 4 F).mono ?_
 rintro e B ⟨rfl,rfl⟩
 go_wp2_with fail
 refine(num17 0 F).mono ?_
 rintro e B ⟨rfl,rfl⟩
 go_wp2_with fail
 go_ret
 exact⟨rfl,a.o⟩
theorem cuts_none {b:List UInt8}(h:b.length≠300):readM b=manZ∧readE b=4:=mread_none (manR_long h)
theorem manCuts_any(m:Man)(wv:Value)(n:Int)(l:List UInt8)(mv:Value)(w:World)(a:m.Arr)(Q:Row1 w wv (m.wr.map bval))(O:Row1 w mv (l.map bval))(hG:GI w):
  Calls Tryd.prog 3 #[.agg (manC m wv).toArray,.int .i64 n,mv] w fun e x=>e=.returned (.bool true)∧Below w.heap.size w x:=by
 obtain⟨i0,hi,a3,ab,aw⟩:=info_parts Tryd.info5
 obtain⟨av,ai,ah,a4⟩:=jq4 hi a3 ab aw
 clear hi a3 ab aw
 obtain⟨ad,cp,a7,-⟩:=id Q
 rw[q100]at a7
 subst a7
 obtain⟨am,cm,a9,-⟩:=id O
 rw[q100]at a9
 subst a9
 obtain⟨C,HW,N,HG,a8⟩:=jq5 a Q O hG (zdc a (.slice ad m.wr.length cp))
 clear a Q O hG
 have HB:=jh (And.intro (Blk.made w (manC m (.slice ad m.wr.length cp)) 30) (Ext.alloc w (.cells (manC m (.slice ad m.wr.length cp)).toArray 30)))
 go_enter Tryd.func3,Tryd.ntmps3
 go_upto_region 1 with(fail)
 obtain⟨h0,hE⟩:=HB.o
 change Code.wp _ _ _ _ (w.alloc (.cells (manC m (.slice ad m.wr.length cp)).toArray 30))
 generalize w.alloc (.cells (manC m (.slice ad m.wr.length cp)).toArray 30)=wa at*
 obtain⟨M,hM⟩:=nxq w.heap.size
 rw[←hM]at h0⊢
 have f:=jh h0
 have c:Hid (Ext w wa):=jh hE
 have HO:Hid (w.heap.size=M):=jh (by omega)
 clear HB hE h0 hM
 have ac:=jh (alive_any17 wa (HG.o.ext c.o))
 go_wp2_with fail
 refine ac.o.mono ?_
 rintro e w1 ⟨rfl,d⟩
 have f:=xxb f d
 have c:Hid (Ext w w1):=xxt c d
 clear d ac
 generalize au:Value.slice ad m.wr.length cp=wv at*
 have ay:=jh au
 clear au
 have aq:=jh (rPackManifest_any m wv w1 C.o (HW.o.below c.o))
 go_wp2_with (refine wpList_load_mid rfl _ _ rfl M 0 rfl _ _ f.o.range Tryd.underlying30 rfl a8.o ?_)
 refine aq.o.mono ?_
 rintro e w2 ⟨x0,rfl,ho,d⟩
 have g:=jh (Row1.of_own ho)
 have f:=xxb f d
 have c:=xxt c d
 clear ho d aq
 have p3:=(man_parts f.o C.o).2.2.2.1
 rw[←ay.o]at p3
 by_cases hl:300<m.wr.length
 ·have al:decide ((300:Int)<(m.wr.length:Int))=true:=decide_eq_true (by omega)
  go_wp2_with fail
  go_ret
  exact⟨rfl,c.o⟩
 have al:decide ((300:Int)<(m.wr.length:Int))=false:=decide_eq_false (by omega)
 generalize a5:m.err=E at*
 have an:=jh a5
 clear a5
 cases hok:m.ok with
 |false=>
  obtain rfl:E=1:=an.o.symm.trans (Man.pac_no hok).1
  clear hok
  go_wp2_with fail
  go_ret
  exact⟨rfl,c.o⟩
 |true=>
  obtain rfl:E=0:=an.o.symm.trans (Man.yes hok).1
  obtain⟨j,af⟩:=jq2 (Man.pack_length C.o (Man.ok_all hok).2.2.2.1) (mread_is (manR_pack C.o hok))
  rw[Man.pac_yes hok]at g
  obtain⟨a0,S,aj,ag,-⟩:=id g.o
  rw[q100,j.o]at aj ag
  subst aj
  clear hok
  by_cases hn:n<0
  ·go_wp2_with fail
   go_ret
   exact⟨rfl,c.o⟩
  by_cases hq:50<l.length
  ·have ae:decide ((50:Int)<(l.length:Int))=true:=decide_eq_true (by omega)
   go_wp2_with fail
   go_ret
   exact⟨rfl,c.o⟩
  have ae:decide ((50:Int)<(l.length:Int))=false:=decide_eq_false (by omega)
  have u:Hid (l.length≤50):=jh (by omega)
  go_upto_region 5 with(fail)
  obtain⟨k,b6⟩:=nxq (n.toNat%300)
  have a6:k<300:=by omega
  have k1:n%(300:Int)=(k:Int):=by omega
  have k2:Int.tmod n (300:Int)=(k:Int):=by rw[Int.tmod_eq_emod_of_nonneg (by omega)];exact k1
  have b3:=jh a6
  have b7:k≤S:=by omega
  have k0:(0:Int)≤(k:Int):=Int.natCast_nonneg _
  have HC:Hid (Row1 w2 (.slice a0 k S) ((m.pack.take k).map bval)):=jh (by rw[List.map_take];exact g.o.head k (by rw[q100,j.o];omega))
  have L:=jh (mRead_any (m.pack.take k) (.slice a0 k S) w2 HC.o (by rw[q106,j.o];omega))
  have P:=jh (cuts_none (b:=m.pack.take k) (by rw[q106,j.o];omega))
  rw[P.o.1,P.o.2]at L
  clear b6 hl al hn hq ae p3 ag HC P
  go_wp2_with fail
  refine L.o.mono ?_
  rintro e I ⟨X,rfl,B,d⟩
  have ap:=jh B
  have f:=xxb f d
  have g:=jh (g.o.below d)
  have c:=xxt c d
  clear B d L k1 k2 b7 k0 a6 b3
  obtain⟨D,s,z⟩:=jq3 (Blk.made I (manC manZ (.slice none 0 0)) 30) (Ext.alloc I (.cells (manC manZ (.slice none 0 0)).toArray 30)) (zdc zcy X)
  have v:Hid ((manC manZ X).length=(manC manZ (.slice none 0 0)).length):=jh (by rw[zbd zcy,zbd zcy])
  have y:=jh (zed (m:=manZ) (row_cell ap.o))
  go_upto_region 6 with(refine ssb I.heap.size (manC manZ X) D.o v.o z.o y.o ?_;intro G r p)
  have b1:=jh r
  have i:=jh (zab s.o p (q101 _))
  have c:=xxt c i.o
  generalize I.heap.size=b8 at*
  clear r p D s z v y
  have f:=xxb f i.o
  have g:=jh (g.o.below i.o)
  clear i ap b1
  have K:Hid ((m.pack++l).length=300+l.length):=jh (by rw[q102,j.o])
  go_wp2_with (first|(at_builtin;refine zad rfl _ _ 24 rfl G.heap.size 5 i0 (.int .u8 0) 1 Tryd.underlying24 av.o ai.o ah.o a4.o rfl (.slice none 0 0) 0 [] rfl (World.ownsRow_nil _ _ _ _) rfl g.o (zac _) (by rw[q100,j.o];unfold maxLen;omega) (by rw[q100,j.o];omega) (q101 _) ?_;intro v5 w5 Z ar;rw[q116,q100,j.o,q111]at Z;have H:Hid (Ext G w5):=jh (zay (Ext.refl _) (World.ownsRow_nil _ _ 5 _) (q101 _) ar);have V:=jh Z;clear Z ar)|(at_builtin;refine zad rfl _ _ 24 rfl G.heap.size 5 i0 (.int .u8 0) 1 Tryd.underlying24 av.o ai.o ah.o a4.o rfl v5 300 _ rfl V.o rfl (N.o.below (c.o.trans H.o)) (zac _) (by have:=u.o;rw[q100];unfold maxLen;omega) (by have:=u.o;rw[q100];omega) H.o.size ?_;intro v6 U a2 ak))
  have a1:Hid (Ext G U):=jh (zay H.o V.o (q101 _) ak)
  have ax:Hid (Row1 U v6 ((m.pack++l).map bval)):=jh (by have h:=Row1.of_own a2;rwa [←q104]at h)
  have f:=xxb f a1.o
  have c:=xxt c a1.o
  have ao:=jh (mRead_any (m.pack++l) v6 U ax.o (by have:=u.o;rw[K.o];omega))
  have R:=jh (readM_arr (m.pack++l))
  have T:Hid (l=[]→readM (m.pack++l)=m∧readE (m.pack++l)=0):=jh (fun e=>by subst e;rw[q123];exact af.o)
  have Y:Hid (l≠[]→readM (m.pack++l)=manZ∧readE (m.pack++l)=4):=jh (fun e=>cuts_none (by rw[K.o];have:=List.length_pos_iff.2 e;omega))
  clear a2 ak H V a1 ax g K af
  generalize az:readM (m.pack++l)=W at*
  generalize b2:readE (m.pack++l)=EE at*
  clear az b2
  refine ao.o.mono ?_
  rintro e J ⟨t,rfl,B,d⟩
  have F:=jh B
  have f:=xxb f d
  have c:=xxt c d
  clear B d ao
  obtain⟨D,s,z⟩:=jq3 (Blk.made J (manC manZ (.slice none 0 0)) 30) (Ext.alloc J (.cells (manC manZ (.slice none 0 0)).toArray 30)) (zdc R.o t)
  have v:Hid ((manC W t).length=(manC manZ (.slice none 0 0)).length):=jh (by rw[zbd R.o,zbd zcy])
  have y:=jh (zed (m:=W) (row_cell F.o))
  go_upto_region 7 with(refine ssb J.heap.size (manC W t) D.o v.o z.o y.o ?_;intro A r p)
  have b5:=jh r
  have i:=jh (zab s.o p (q101 _))
  have c:=xxt c i.o
  generalize J.heap.size=b0 at*
  clear r p D s z v y
  have F:=jh (F.o.below i.o)
  have f:=xxb f i.o
  obtain⟨b4,N⟩:=jq2 (zdc R.o t) (N.o.below c.o)
  clear i
  cases l with
  |nil=>
   obtain⟨e1,rfl⟩:=T.o rfl
   obtain rfl:=e1.symm
   clear T Y u
   go_wp2_with fail
   refine(num17 4 A).mono ?_
   rintro e x ⟨rfl,rfl⟩
   go_wp2_with fail
   refine(num17 0 A).mono ?_
   rintro e x ⟨rfl,rfl⟩
   go_wp2_with (first|(refine zdz (by rfl) _ _ rfl M 0 rfl _ _ f.o.range Tryd.underlying30 a8.o ?_)|(refine zdz (by rfl) _ _ rfl b0 0 rfl _ _ b5.o.range Tryd.underlying30 b4.o ?_))
   refine(rSame_self m wv t A C.o (HW.o.below c.o) F.o).mono ?_
   rintro e w9 ⟨rfl,d⟩
   have c:=xxt c d
   clear d
   go_wp2_with fail
   go_ret
   exact⟨rfl,c.o⟩
  |cons lx lt=>
   obtain⟨rfl,rfl⟩:=Y.o (by simp)
   obtain⟨q,aa⟩:=nxq lt.length
   clear T Y u
   rw[q103,←aa]at*
   clear aa
   go_wp2_with fail
   refine(num17 4 A).mono ?_
   rintro e x ⟨rfl,rfl⟩
   go_wp2_with fail
   refine(num17 4 A).mono ?_
   rintro e x ⟨rfl,rfl⟩
   go_wp2_with fail
   go_ret
   exact⟨rfl,c.o⟩
end Go.Proofs.YtgnfdonbholcdaaDoor


