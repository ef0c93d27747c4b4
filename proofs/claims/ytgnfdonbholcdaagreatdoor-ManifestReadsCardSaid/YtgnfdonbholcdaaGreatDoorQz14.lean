/- Lemmas. -/
import Derived.Test.YtgnfdonbholcdaaGreatDoorQz13
namespace Go.Proofs.YtgnfdonbholcdaaGreatDoor
set_option linter.unusedVariables false
set_option maxRecDepth 100000
set_option maxHeartbeats 32000000
set_option linter.unusedSimpArgs false
open Go.RowKit
theorem rExpand_any(iv:Value)(c a:List UInt8)(n:Nat)(w:World)(hk:c.length=32)(hi:Row1 w iv (a.map bval))(am:a.length≤1099511627000)(hn:n≤8160)(hG:GlobK w):
  Calls Tryz.prog 140 #[.agg (c.map bval).toArray,iv,.int .i64 (n:Int)] w fun e w'=>∃x,e=.returned x∧w'.ownsRow w.heap.size 5 1 x n ((hExpand c a n).map bval)∧Below w.heap.size w w':=by
 obtain⟨D,aw,aj,an,b0⟩:=info_parts Tryz.info5
 obtain⟨G,J,p,R,bo,z⟩:=jq6 aw aj an b0 hi am
 obtain⟨V,HG,HN⟩:=jq3 hk hG hn
 have n0:(0:Int)≤(n:Int):=Int.natCast_nonneg _
 obtain⟨ae,bc⟩:=jq2 (Blk.made w (c.map bval) 23) (Ext.alloc w (.cells (c.map bval).toArray 23))
 have af:Hid ((w.alloc (.cells (c.map bval).toArray 23)).ownsRow (w.heap.size+1) 5 1 (.slice none 0 0) 0 []):=jh (World.ownsRow_nil _ _ _ _)
 have bj:=jh usome
 clear hi am hk hG hn aw aj an b0
 go_enter Tryz.func140,Tryz.ntmps140
 go_wp2_with fail
 obtain⟨K,b⟩:=nxq w.heap.size
 have br:=jh b
 rw[←b]at ae af⊢
 clear b
 go_loopw [7,8,9] (fun x tv ab wr=>∃(j:Nat),ab=.int .i64 (1+(j:Int))∧j≤255∧wr.ownsRow (K+1) 5 1 x (32*j) ((hkAll c a j).map bval)∧Row1 wr tv ((hkT c a j).map bval)∧Blk wr K (c.map bval) 23∧Ext w wr) (fun _ _ ab _=>300 - (intOf ab).toNat)
 case atStart=>exact⟨0,rfl,by omega,by simpa[hkAll]using af.o,by simpa[hkT]using Row1.nil _,ae.o,bc.o⟩
 case round=>
  clear af ae bc
  obtain⟨j,rfl,hj,ho,ht,be,hE⟩:=hrel
  have j0:(0:Int)≤(j:Int):=Int.natCast_nonneg _
  obtain⟨HO,HT,W,N,q,HJ⟩:=jq6 ho ht be hE (hkT_le c a j) hj
  obtain⟨ax,cx,al,x1,x2,x3,x4⟩:=id (Row1.of_own ho)
  have bd:((hkAll c a j).map bval).length=32*j:=by rw[q100,zdt]
  rw[bd]at al
  subst al
  clear ho ht be hE x1 x2 x3 x4 bd
  by_cases c3:32*j<n
  ·have bh:32*(j:Int)<(n:Int):=by omega
   have bp:((32*j:Nat):Int)<(n:Int):=by omega
   have v:Hid (wr.ownsRow wr.heap.size 5 1 (.slice none 0 0) 0 []):=jh (World.ownsRow_nil _ _ _ _)
   have au:=jh (bo.o.below N.o)
   go_upto_region 7 with(first|(at_builtin;refine zad rfl _ _ 24 rfl wr.heap.size 5 D (.int .u8 0) 1 q104 G.o J.o p.o R.o rfl _ _ _ rfl v.o rfl HT.o (zac _) (by have:=q.o;rw[q100];unfold maxLen;omega) (by have:=q.o;rw[q100];omega) (q101 _) ?_;intro v5 w5 ag A)|(at_builtin;refine zad rfl _ _ 24 rfl wr.heap.size 5 D (.int .u8 0) 1 q104 G.o J.o p.o R.o rfl _ _ _ rfl ag rfl (au.o.below (show Ext wr w5 from zbf (Ext.refl _) v.o (q101 _) A)) (zac _) (by have:=q.o;have:=z.o;simp only[q100];unfold maxLen;omega) (by have:=q.o;have:=z.o;simp only[q100];omega) (show Ext wr w5 from zbf (Ext.refl _) v.o (q101 _) A).size ?_;intro U L ao bb))
   have b9:Hid (Ext wr L):=jh (zbf (zbf (Ext.refl _) v.o (q101 _) A) ag (q101 _) bb)
   have ak:L.ownsRow wr.heap.size 5 1 U ((hkT c a j++a).length) ((hkT c a j++a).map bval):=by
    have h:=ao
    rw[q115,←q110]at h
    simpa only[q100,q105,q117]using h
   have bg:=jh ak
   have bf:Hid (bits .and .i64 (1+(j:Int)) 255=(((j+1)%256:Nat):Int)):=jh (by rw[zct _ (by omega) (by omega)];omega)
   have ba:Hid (IntKind.u8.wrap (((j+1)%256:Nat):Int)=((UInt8.ofNat ((j+1)%256)).toNat:Int)):=jh (by rw[UInt8.toNat_ofNat',IntKind.wrap_u8];omega)
   clear ag A ao bb ak v au
   go_cut [11]from 12 to 34 (fun bk wc=>∃g,bk=.pointer (some ⟨g,0,none⟩)∧wr.heap.size≤g∧Blk wc g ((hmac c (hkT c a j++a++[UInt8.ofNat ((j+1)%256)])).map bval) 23∧Ext wr wc)
   case first=>
    have f:=bg.o
    have B0:Ext wr L.drew:=(b9.o).trans (Ext.drew _)
    refine wp_region_held_drew (S:=fun w'=>Ext wr w') (by kernel_rfl) B0 (fun d=>?_)
    have f:=zbn f (Ext.drew _)
    refine tke 0 (.slice (some ⟨K,0,none⟩) 32 32) rfl (zbp _ _ _ _ (.pointer (some ⟨K,0,none⟩)) (.slice (some ⟨K,0,none⟩) 32 32) none none (by rfl) rfl rfl rfl rfl (fun w=>zdf q102 q111 (by omega) _ w)) d ?_
    simp only[nm]
    refine tke 1 U rfl (zbe _ (U) (by rfl) rfl rfl) d ?_
    simp only[nm]
    refine tke 2 (.int .i64 (1+(j:Int))) rfl (zbe _ (.int .i64 (1+(j:Int))) (by rfl) rfl rfl) d ?_
    simp only[nm]
    refine tke 3 (.int .i64 (((j+1)%256:Nat):Int)) rfl (yi_and .i64 _ _ _ _ _ _ _ bf.o (by rfl) rfl rfl rfl) d ?_
    simp only[nm]
    refine tke 4 (.int .u8 ((UInt8.ofNat ((j+1)%256)).toNat:Int)) rfl (yi_iconv _ _ _ .i64 .u8 _ _ bj.o q113 ba.o (by rfl) rfl rfl) d ?_
    simp only[nm]
    refine wpAnyH_ready (rs:=[5,8]) (by kernel_rfl) (by simp) (AllReadyH.cons rfl (fun K b=>?_) (AllReadyH.cons rfl (fun K b=>?_) AllReadyH.nil))
    ·refine zan (by rfl) ?_
     refine zbl (some 27) _ _ _ _ rfl rfl #[.int .u8 ((UInt8.ofNat ((j+1)%256)).toNat:Int)] D (.int .u8 0) q104 G.o J.o (by rw[p.o];decide) (by rw[p.o];decide) (by rw[p.o];kernel_rfl) ?_
     obtain⟨s,F⟩:=nxq (World.alloc L.drew (.cells #[.int .u8 ((UInt8.ofNat ((j+1)%256)).toNat:Int)] 5))
     rw[←F]
     have b1:Ext L.drew s:=by rw[F];exact Ext.alloc _ _
     obtain⟨T,I⟩:=nxq ((L.drew).heap.size)
     rw[←I]
     have f:=zbn f b1
     have r1:Row1 s (.slice (some ⟨T,0,none⟩) 1 1) (([UInt8.ofNat ((j+1)%256)]:List UInt8).map bval):=by rw[F,I];exact Row1.made _ _ _ _ _ _ rfl rfl rfl (by unfold maxLen;omega)
     have o1:World.ownsRow s (wr).heap.size 5 1 (.slice (some ⟨T,0,none⟩) 1 1) 1 (([UInt8.ofNat ((j+1)%256)]:List UInt8).map bval):=by rw[F,I];exact own_made _ _ _ _ _ _ rfl rfl (by unfold maxLen;omega) B0.size
     clear F I
     have M:Ext wr s:=B0.trans b1
     refine b.o _ _ M (fun d=>?_)
     clear b K
     try simp only[nm]
     refine wpAnyH_ready (rs:=[6,8]) (by kernel_rfl) (by simp) (AllReadyH.cons rfl (fun K b=>?_) (AllReadyH.cons rfl (fun K b=>?_) AllReadyH.nil))
     ·refine zan (by rfl) ?_
      refine zbh _ _ 24 rfl (wr).heap.size 5 D (.int .u8 0) 1 q104 G.o J.o p.o R.o rfl (U) ((hkT c a j++a).length) _ rfl f rfl r1 (zac _) (by have:=z.o;have:=q.o;simp only[q105,q100,q106,q121];unfold maxLen;omega) (by have:=z.o;have:=q.o;simp only[q105,q100,q106,q121];omega) M.size ?_
      intro v2 k bl u
      have t:Ext wr k:=zbf M f (q101 _) u
      have y:Row1 k v2 ((((hkT c a j++a)++[UInt8.ofNat ((j+1)%256)])).map bval):=by have h:=Row1.of_own bl;simpa using h
      refine b.o _ _ t (fun d=>?_)
      clear b K
      try simp only[nm]
      refine wpAnyH_ready (rs:=[7,8]) (by kernel_rfl) (by simp) (AllReadyH.cons rfl (fun K b=>?_) (AllReadyH.cons rfl (fun K b=>?_) AllReadyH.nil))
      ·go_simp
       refine(rMac_any _ _ c ((hkT c a j++a)++[UInt8.ofNat ((j+1)%256)]) _ ((zbz (n:=32) W.o (by rw[q100];exact V.o) (by unfold maxLen;omega)).below t) y (by rw[V.o];omega) (by have:=z.o;have:=q.o;simp only[q105,q106,q121];omega) (HG.o.ext (N.o.trans t))).mono ?_
       rintro e m ⟨rfl,b3⟩
       have y:=y.below b3
       have i:Ext wr m:=t.trans b3
       refine b.o _ _ i (fun d=>?_)
       clear b K
       try simp only[nm]
       refine rdy 8 rfl fun K b=>?_
       refine zan (by rfl) ?_
       refine wp_alloc_d (some 11) _ zero32 rfl rfl q138 ?_
       obtain⟨O,a4⟩:=nxq (World.alloc m (.cells zero32.toArray 23))
       rw[←a4]
       have l:Ext m O:=by rw[a4];exact Ext.alloc _ _
       obtain⟨g4,a5⟩:=nxq ((m).heap.size)
       rw[←a5]
       have z4:Blk O g4 zero32 23:=by rw[a4,a5];exact Blk.made _ _ _
       have l4:(wr).heap.size≤g4:=by rw[a5];exact i.size
       clear a4 a5
       have y:=y.below l
       have C:Ext wr O:=i.trans l
       refine b.o _ _ C (fun d=>?_)
       clear b K
       try simp only[nm]
       refine rdy 9 rfl fun K b=>?_
       refine zan (by rfl) ?_
       refine zar _ _ _ rfl g4 ((hmac c ((hkT c a j++a)++[UInt8.ofNat ((j+1)%256)])).map bval) rfl rfl _ _ z4 (by rw[q100,zbx _ _];rfl) (zaf (zbx _ _)) (zac _) ?_
       intro X Y A
       have B:Ext wr X:=zab C A l4
       refine b.o _ _ B (fun d=>?_)
       clear b K
       try simp only[nm]
       refine dne ?_
       go_wp2_with fail
       go_meet
       exact⟨_,rfl,l4,Y,B⟩
      refine zan (by rfl) ?_
      refine wp_alloc_d (some 11) _ zero32 rfl rfl q138 ?_
      obtain⟨m,a2⟩:=nxq (World.alloc k (.cells zero32.toArray 23))
      rw[←a2]
      have b3:Ext k m:=by rw[a2];exact Ext.alloc _ _
      obtain⟨g3,H⟩:=nxq ((k).heap.size)
      rw[←H]
      have z3:Blk m g3 zero32 23:=by rw[a2,H];exact Blk.made _ _ _
      have l3:(wr).heap.size≤g3:=by rw[H];exact t.size
      clear a2 H
      have y:=y.below b3
      have i:Ext wr m:=t.trans b3
      refine b.o _ _ i (fun d=>?_)
      clear b K
      try simp only[nm]
      refine rdy 7 rfl fun K b=>?_
      go_simp
      refine(rMac_any _ _ c ((hkT c a j++a)++[UInt8.ofNat ((j+1)%256)]) _ ((zbz (n:=32) W.o (by rw[q100];exact V.o) (by unfold maxLen;omega)).below i) y (by rw[V.o];omega) (by have:=z.o;have:=q.o;simp only[q105,q106,q121];omega) (HG.o.ext (N.o.trans i))).mono ?_
      rintro e O ⟨rfl,l⟩
      have y:=y.below l
      have z3:=z3.below l
      have C:Ext wr O:=i.trans l
      refine b.o _ _ C (fun d=>?_)
      clear b K
      try simp only[nm]
      refine rdy 9 rfl fun K b=>?_
      refine zan (by rfl) ?_
      refine zar _ _ _ rfl g3 ((hmac c ((hkT c a j++a)++[UInt8.ofNat ((j+1)%256)])).map bval) rfl rfl _ _ z3 (by rw[q100,zbx _ _];rfl) (zaf (zbx _ _)) (zac _) ?_
      intro X Y A
      have B:Ext wr X:=zab C A l3
      refine b.o _ _ B (fun d=>?_)
      clear b K
      try simp only[nm]
      refine dne ?_
      go_wp2_with fail
      go_meet
      exact⟨_,rfl,l3,Y,B⟩
     refine zan (by rfl) ?_
     refine wp_alloc_d (some 11) _ zero32 rfl rfl q138 ?_
     obtain⟨k,E⟩:=nxq (World.alloc s (.cells zero32.toArray 23))
     rw[←E]
     have Q:Ext s k:=by rw[E];exact Ext.alloc _ _
     obtain⟨P,u⟩:=nxq ((s).heap.size)
     rw[←u]
     have z2:Blk k P zero32 23:=by rw[E,u];exact Blk.made _ _ _
     have l2:(wr).heap.size≤P:=by rw[u];exact M.size
     have bm:∀r,(U:Value).ownBlock=some r→r<P:=fun r h=>by rw[u];exact(f.lt r h).2
     have c0:∀r,(.slice (some ⟨T,0,none⟩) 1 1:Value).ownBlock=some r→r<P:=fun r h=>by rw[u];exact(o1.lt r h).2
     clear E u
     have r1:=r1.below Q
     have f:=zbn f Q
     have o1:=zbn o1 Q
     have t:Ext wr k:=M.trans Q
     refine b.o _ _ t (fun d=>?_)
     clear b K
     try simp only[nm]
     refine rdy 6 rfl fun K b=>?_
     refine zan (by rfl) ?_
     refine zbh _ _ 24 rfl (wr).heap.size 5 D (.int .u8 0) 1 q104 G.o J.o p.o R.o rfl (U) ((hkT c a j++a).length) _ rfl f rfl r1 (zac _) (by have:=z.o;have:=q.o;simp only[q105,q100,q106,q121];unfold maxLen;omega) (by have:=z.o;have:=q.o;simp only[q105,q100,q106,q121];omega) t.size ?_
     intro v3 m aa H
     have i:Ext wr m:=zbf t f (q101 _) H
     have z2:=z2.grown H (fun e=>absurd (bm _ e) (Nat.lt_irrefl _))
     have Z:Row1 m v3 ((((hkT c a j++a)++[UInt8.ofNat ((j+1)%256)])).map bval):=by have h:=Row1.of_own aa;simpa using h
     refine b.o _ _ i (fun d=>?_)
     clear b K
     try simp only[nm]
     refine rdy 7 rfl fun K b=>?_
     go_simp
     refine(rMac_any _ _ c ((hkT c a j++a)++[UInt8.ofNat ((j+1)%256)]) _ ((zbz (n:=32) W.o (by rw[q100];exact V.o) (by unfold maxLen;omega)).below i) Z (by rw[V.o];omega) (by have:=z.o;have:=q.o;simp only[q105,q106,q121];omega) (HG.o.ext (N.o.trans i))).mono ?_
     rintro e O ⟨rfl,l⟩
     have Z:=Z.below l
     have z2:=z2.below l
     have C:Ext wr O:=i.trans l
     refine b.o _ _ C (fun d=>?_)
     clear b K
     try simp only[nm]
     refine rdy 9 rfl fun K b=>?_
     refine zan (by rfl) ?_
     refine zar _ _ _ rfl P ((hmac c ((hkT c a j++a)++[UInt8.ofNat ((j+1)%256)])).map bval) rfl rfl _ _ z2 (by rw[q100,zbx _ _];rfl) (zaf (zbx _ _)) (zac _) ?_
     intro X Y A
     have B:Ext wr X:=zab C A l2
     refine b.o _ _ B (fun d=>?_)
     clear b K
     try simp only[nm]
     refine dne ?_
     go_wp2_with fail
     go_meet
     exact⟨_,rfl,l2,Y,B⟩
    refine zan (by rfl) ?_
    refine wp_alloc_d (some 11) _ zero32 rfl rfl q138 ?_
    obtain⟨s,F⟩:=nxq (World.alloc L.drew (.cells zero32.toArray 23))
    rw[←F]
    have b1:Ext L.drew s:=by rw[F];exact Ext.alloc _ _
    obtain⟨T,I⟩:=nxq ((L.drew).heap.size)
    rw[←I]
    have z1:Blk s T zero32 23:=by rw[F,I];exact Blk.made _ _ _
    have l1:(wr).heap.size≤T:=by rw[I];exact B0.size
    have bn:∀r,(U:Value).ownBlock=some r→r<T:=fun r h=>by rw[I];exact(f.lt r h).2
    clear F I
    have f:=zbn f b1
    have M:Ext wr s:=B0.trans b1
    refine b.o _ _ M (fun d=>?_)
    clear b K
    try simp only[nm]
    refine rdy 5 rfl fun K b=>?_
    refine zan (by rfl) ?_
    refine zbl (some 27) _ _ _ _ rfl rfl #[.int .u8 ((UInt8.ofNat ((j+1)%256)).toNat:Int)] D (.int .u8 0) q104 G.o J.o (by rw[p.o];decide) (by rw[p.o];decide) (by rw[p.o];kernel_rfl) ?_
    obtain⟨k,E⟩:=nxq (World.alloc s (.cells #[.int .u8 ((UInt8.ofNat ((j+1)%256)).toNat:Int)] 5))
    rw[←E]
    have Q:Ext s k:=by rw[E];exact Ext.alloc _ _
    obtain⟨P,u⟩:=nxq ((s).heap.size)
    rw[←u]
    have f:=zbn f Q
    have z1:=z1.below Q
    have y:Row1 k (.slice (some ⟨P,0,none⟩) 1 1) (([UInt8.ofNat ((j+1)%256)]:List UInt8).map bval):=by rw[E,u];exact Row1.made _ _ _ _ _ _ rfl rfl rfl (by unfold maxLen;omega)
    have o2:World.ownsRow k (wr).heap.size 5 1 (.slice (some ⟨P,0,none⟩) 1 1) 1 (([UInt8.ofNat ((j+1)%256)]:List UInt8).map bval):=by rw[E,u];exact own_made _ _ _ _ _ _ rfl rfl (by unfold maxLen;omega) M.size
    clear E u
    have t:Ext wr k:=M.trans Q
    refine b.o _ _ t (fun d=>?_)
    clear b K
    try simp only[nm]
    refine rdy 6 rfl fun K b=>?_
    refine zan (by rfl) ?_
    refine zbh _ _ 24 rfl (wr).heap.size 5 D (.int .u8 0) 1 q104 G.o J.o p.o R.o rfl (U) ((hkT c a j++a).length) _ rfl f rfl y (zac _) (by have:=z.o;have:=q.o;simp only[q105,q100,q106,q121];unfold maxLen;omega) (by have:=z.o;have:=q.o;simp only[q105,q100,q106,q121];omega) t.size ?_
    intro v3 m aa H
    have i:Ext wr m:=zbf t f (q101 _) H
    have z1:=z1.grown H (fun e=>absurd (bn _ e) (Nat.lt_irrefl _))
    have Z:Row1 m v3 ((((hkT c a j++a)++[UInt8.ofNat ((j+1)%256)])).map bval):=by have h:=Row1.of_own aa;simpa using h
    refine b.o _ _ i (fun d=>?_)
    clear b K
    try simp only[nm]
    refine rdy 7 rfl fun K b=>?_
    go_simp
    refine(rMac_any _ _ c ((hkT c a j++a)++[UInt8.ofNat ((j+1)%256)]) _ ((zbz (n:=32) W.o (by rw[q100];exact V.o) (by unfold maxLen;omega)).below i) Z (by rw[V.o];omega) (by have:=z.o;have:=q.o;simp only[q105,q106,q121];omega) (HG.o.ext (N.o.trans i))).mono ?_
    rintro e O ⟨rfl,l⟩
    have Z:=Z.below l
    have z1:=z1.below l
    have C:Ext wr O:=i.trans l
    refine b.o _ _ C (fun d=>?_)
    clear b K
    try simp only[nm]
    refine rdy 9 rfl fun K b=>?_
    refine zan (by rfl) ?_
    refine zar _ _ _ rfl T ((hmac c ((hkT c a j++a)++[UInt8.ofNat ((j+1)%256)])).map bval) rfl rfl _ _ z1 (by rw[q100,zbx _ _];rfl) (zaf (zbx _ _)) (zac _) ?_
    intro X Y A
    have B:Ext wr X:=zab C A l1
    refine b.o _ _ B (fun d=>?_)
    clear b K
    try simp only[nm]
    refine dne ?_
    go_wp2_with fail
    go_meet
    exact⟨_,rfl,l1,Y,B⟩
   case rest=>
    obtain⟨g,rfl,bw,a9,ai⟩:=hcut
    have b6:hmac c (hkT c a j++a++[UInt8.ofNat ((j+1)%256)])=hkT c a (j+1):=rfl
    rw[b6]at a9
    have aq:Hid ((hkT c a (j+1)).length=32):=jh (hkT_length c a j)
    have b5:=jh (zbz (n:=32) a9 (by rw[q100];exact aq.o) (by unfold maxLen;omega))
    have v:Hid (wc.ownsRow wc.heap.size 5 1 (.slice none 0 0) 0 []):=jh (World.ownsRow_nil _ _ _ _)
    obtain⟨av,ad⟩:=jq2 ai (zbn HO.o ai)
    have bt:Hid (K+1≤wr.heap.size):=jh W.o.lt
    have a0:Hid (((hkT c a (j+1)).map bval).length=32):=jh (by rw[q100];exact aq.o)
    have c2:Hid (((hkAll c a j).map bval).length=32*j):=jh (by rw[q100,zdt])
    clear b6 a9 bw ai b9 bg bf ba
    go_upto_region 9 with(at_builtin;refine zad rfl _ _ 24 rfl wc.heap.size 5 D (.int .u8 0) 1 q104 G.o J.o p.o R.o rfl _ _ _ rfl v.o rfl b5.o (zac _) (by rw[a0.o];unfold maxLen;omega) (by rw[a0.o];omega) (q101 _) ?_;intro v8 w8 a7 b7)
    have a8:Hid (Ext wc w8):=jh (zbf (Ext.refl _) v.o (q101 _) b7)
    rw[q115,a0.o]at a7
    obtain⟨bi,ac,az⟩:=jq3 a7 (zbn ad.o a8.o) (Row1.of_own a7)
    have bz:Hid (K+1≤w8.heap.size):=jh (q119 bt.o (av.o.trans a8.o).size)
    have ar:=xxt av a8.o
    have b8:Hid (∀r,(Value.slice ax (32*j) cx).ownBlock=some r→r<wc.heap.size):=jh (fun r h=>(ad.o.lt r h).2)
    have bx:Hid (∀r,(Value.slice ax (32*j) cx).ownBlock=some r→v8.ownBlock≠some r):=jh (fun r h=>Row1.own_ne bi.o (b8.o r h))
    clear a7 b7 v b5 ad b8
    go_wp2_with (at_builtin;refine zad rfl _ _ 24 rfl (K+1) 5 D (.int .u8 0) 1 q104 G.o J.o p.o R.o rfl _ _ _ rfl ac.o rfl az.o (zac _) (by have:=HJ.o;rw[a0.o];unfold maxLen;omega) (by have:=HJ.o;rw[a0.o];omega) bz.o ?_;intro v9 w9 a3 a1)
    go_roundw
    case rel=>
     have bv:(Value.slice ax (32*j) cx).ownBlock≠some K:=fun e=>by have:=(ac.o.lt K e).1;omega
     have bs:Ext w w9:=zbf (N.o.trans ar.o) ac.o (by rw[←br.o];omega) a1
     refine⟨j+1,by go_num,by have:=HN.o;omega,?_,az.o.grown a1 (fun r h=>bx.o r h),(W.o.below ar.o).grown a1 bv,bs⟩
     have e1:(hkAll c a (j+1)).map bval=(hkAll c a j).map bval++(hkT c a (j+1)).map bval:=by rw[hkAll,q110]
     rw[e1]
     have h:=a3
     rw[a0.o]at h
     exact h
    case measure=>simp[intOf];omega
  have bh:(n:Int)≤32*(j:Int):=by omega
  have bp:¬((32*j:Nat):Int)<(n:Int):=by omega
  obtain⟨vx,a6,c1⟩:=row_upto q104 q111 (Row1.of_own HO.o) n (by rw[q100,zdt];omega)
  have bq:((hkAll c a j).map bval).length=32*j:=by rw[q100,zdt]
  have ap:((hkAll c a j).map bval).take n=(hExpand c a n).map bval:=by rw[←List.map_take,hkAll_take c a j (by omega)]
  rw[ap]at a6
  have bu:=jh a6
  obtain⟨ay,ny,cy,rfl⟩:=row_form2 a6
  have v:Hid (wr.ownsRow wr.heap.size 5 1 (.slice none 0 0) 0 []):=jh (World.ownsRow_nil _ _ _ _)
  have ah:Hid (((hExpand c a n).map bval).length=n):=jh (by rw[q100,zbb])
  clear a6 ap bq HO HT W
  go_wp2_with (at_builtin;refine zad rfl _ _ 24 rfl wr.heap.size 5 D (.int .u8 0) 1 q104 G.o J.o p.o R.o rfl _ _ _ rfl v.o rfl bu.o (zac _) (by have:=HN.o;rw[ah.o];unfold maxLen;omega) (by have:=HN.o;rw[ah.o];omega) (q101 _) ?_;intro v9 w9 a3 a1)
  go_ret
  refine⟨_,rfl,?_,zbf N.o (zbv v.o N.o.size) (q101 _) a1⟩
  rw[q115,ah.o,q117]at a3
  exact zbv a3 N.o.size
theorem rExtract_any(f g:Value)(k m:List UInt8)(w:World)(n:Row1 w f (k.map bval))(p:Row1 w g (m.map bval))(x:k.length≤1099511627776)(u:m.length≤1099511627712)(l:GlobK w):
  Calls Tryz.prog 141 #[f,g] w fun e q=>e=.returned (.agg ((hmac k m).map bval).toArray)∧Below w.heap.size w q:=by
 obtain⟨y,A,E,j,b⟩:=jq5 n p l (Blk.made w (ints .u8 (List.replicate 32 0)) 23) (Ext.alloc w (.cells (ints .u8 (List.replicate 32 0)).toArray 23))
 clear n p l
 go_enter Tryz.func141,Tryz.ntmps141
 go_upto_region 1 with(fail)
 change Code.wp _ _ _ _ (w.alloc (.cells (ints .u8 (List.replicate 32 0)).toArray 23))
 generalize B:w.alloc (.cells (ints .u8 (List.replicate 32 0)).toArray 23)=z at*
 clear B
 go_wp2_with fail
 refine(rMac_any f g k m z (y.o.below b.o) (A.o.below b.o) x u (E.o.ext b.o)).mono ?_
 rintro e G ⟨rfl,d⟩
 have t:=xxt b d
 have s:=jh (j.o.same (d.block _ j.o.lt))
 obtain⟨c,a⟩:=nxq (hmac k m)
 rw[←a]
 have h:Hid (c.length=32):=jh (by rw[a];exact zbx _ _)
 have v:=jh a
 clear a d
 have i:Hid ((Tryz.prog.info? 23).map (·.size)=some (c.map bval).length):=jh (zaf h.o)
 have C:Hid ((c.map bval).length=(ints .u8 (List.replicate 32 0)).length):=jh (by rw[q100,h.o,zaa,q112])
 go_wp2_with (refine ssb w.heap.size (c.map bval) s.o C.o i.o (zac _) ?_;intro F D r)
 refine bodyPost_ret (zam rfl _ w.heap.size _ _ _ _ rfl D q102 i.o) rfl ?_
 exact⟨by rw[v.o],zab t.o r (q101 _)⟩
theorem rwra_nonce(w:World):(Instr.build 145 #[]).run Tryz.prog w=.ok (.agg ((zB 12).map bval).toArray) w:=by
 simp[Instr.build,Tryz.zeroValue145]
 rfl
theorem rwra_any(b c:List UInt8)(w:World)(he:b.length=32)(hz:c.length=32)(hG:GlobK w):
  Calls Tryz.prog 98 #[.agg (b.map bval).toArray,.agg (c.map bval).toArray] w fun e w'=>e=.returned (.agg ((betK b c).map bval).toArray)∧Below w.heap.size w w':=by
 obtain⟨i0,hi,ae,af,ah⟩:=info_parts Tryz.info5
 obtain⟨ai,al,O,au,HB,L⟩:=jq6 hi ae af ah (boxes3 w (b.map bval) (c.map bval) ((zB 32).map bval) 23 23 23) hG
 obtain⟨R,M⟩:=jq2 he hz
 clear he hz hG hi ae af ah
 go_enter Tryz.func98,Tryz.ntmps98
 go_upto_region 2 with(fail)
 obtain⟨Q,J,N,HE⟩:=HB.o
 change Code.wp _ _ _ _ ((((w.alloc (.cells (b.map bval).toArray 23)).alloc (.cells (c.map bval).toArray 23)).alloc (.cells ((zB 32).map bval).toArray 23)).alloc (.cells ((zB 32).map bval).toArray 23))
 have a9:Hid ((((w.alloc (.cells (b.map bval).toArray 23)).alloc (.cells (c.map bval).toArray 23)).alloc (.cells ((zB 32).map bval).toArray 23)).heap.size=w.heap.size+1+1+1):=jh (by simp)
 generalize ((w.alloc (.cells (b.map bval).toArray 23)).alloc (.cells (c.map bval).toArray 23)).alloc (.cells ((zB 32).map bval).toArray 23)=f at*
 have ao:Hid (Ext f (f.alloc (.cells ((zB 32).map bval).toArray 23))):=jh (Ext.alloc _ _)
 have am:=jh (Blk.made f ((zB 32).map bval) 23)
 generalize f.alloc (.cells ((zB 32).map bval).toArray 23)=W at*
 obtain⟨j,a5⟩:=nxq (w.heap.size+1+1+1)
 have z:=am.o
 rw[a9.o,←a5]at z
 have aq:=jh z
 have a8:Hid (f.heap.size≤j):=jh (by rw[a9.o,a5];omega)
 have y:Hid (Ext w f):=jh HE
 rw[←a5]
 clear z a5 a9 am HE
 obtain⟨A,hA⟩:=nxq w.heap.size
 have ad:Hid (w.heap.size≤A+1+1):=jh (by omega)
 rw[←hA]at Q J N⊢
 obtain⟨Q,J,N⟩:=jq3 Q J N
 clear hA HB
 have d:=aq.o
 have I:Ext f W.drew:=(ao.o).trans (Ext.drew _)
 refine wp_region_held_drew (S:=fun w'=>Ext f w') (by kernel_rfl) I (fun g=>?_)
 have d:=d.below (Ext.drew _)
 refine tke 0 (.slice (some ⟨j,0,none⟩) 32 32) rfl (zbp _ _ _ _ (.pointer (some ⟨j,0,none⟩)) (.slice (some ⟨j,0,none⟩) 32 32) none none (by rfl) rfl rfl rfl rfl (fun w=>zdf q102 q111 (by omega) _ w)) g ?_
 simp only[nm]
 refine tke 1 (.slice (some ⟨A,0,none⟩) 32 32) rfl (zbp _ _ _ _ (.pointer (some ⟨A,0,none⟩)) (.slice (some ⟨A,0,none⟩) 32 32) none none (by rfl) rfl rfl rfl rfl (fun w=>zdf q102 q111 (by omega) _ w)) g ?_
 simp only[nm]
 refine tke 2 (.slice (some ⟨A+1,0,none⟩) 32 32) rfl (zbp _ _ _ _ (.pointer (some ⟨A+1,0,none⟩)) (.slice (some ⟨A+1,0,none⟩) 32 32) none none (by rfl) rfl rfl rfl rfl (fun w=>zdf q102 q111 (by omega) _ w)) g ?_
 simp only[nm]
 refine wpAnyH_ready (rs:=[3,4]) (by kernel_rfl) (by simp) (AllReadyH.cons rfl (fun K a=>?_) (AllReadyH.cons rfl (fun K a=>?_) AllReadyH.nil))
 ·go_simp
  refine(rExtract_any _ _ b c W.drew ((zbz (n:=32) Q.o (by rw[q100];exact R.o) (by unfold maxLen;omega)).below I) ((zbz (n:=32) J.o (by rw[q100];exact M.o) (by unfold maxLen;omega)).below I) (by rw[R.o];decide) (by rw[M.o];decide) (L.o.ext (y.o.trans I))).mono ?_
  rintro e v ⟨rfl,b1⟩
  have d:=d.below b1
  have u:Ext f v:=I.trans b1
  refine a.o _ _ u (fun g=>?_)
  clear a K
  try simp only[nm]
  refine rdy 4 rfl fun K a=>?_
  refine zan (by rfl) ?_
  refine zbl (some 10) _ _ _ _ rfl rfl #[.int .u8 119,.int .u8 114,.int .u8 97,.int .u8 112] i0 (.int .u8 0) q104 ai.o al.o (by rw[O.o];decide) (by rw[O.o];decide) (by rw[O.o];kernel_rfl) ?_
  obtain⟨x,X⟩:=nxq (World.alloc v (.cells #[.int .u8 119,.int .u8 114,.int .u8 97,.int .u8 112] 5))
  rw[←X]
  have H:Ext v x:=by rw[X];exact Ext.alloc _ _
  obtain⟨g2,a6⟩:=nxq ((v).heap.size)
  rw[←a6]
  have d:=d.below H
  have T:Row1 x (.slice (some ⟨g2,0,none⟩) 4 4) (([119,114,97,112]:List UInt8).map bval):=by rw[X,a6];exact Row1.made _ _ _ _ _ _ rfl rfl rfl (by unfold maxLen;omega)
  have o2:World.ownsRow x (f).heap.size 5 1 (.slice (some ⟨g2,0,none⟩) 4 4) 4 (([119,114,97,112]:List UInt8).map bval):=by rw[X,a6];exact own_made _ _ _ _ _ _ rfl rfl (by unfold maxLen;omega) u.size
  clear X a6
  have s:Ext f x:=u.trans H
  have q2:g2≠j:=own_ne_blk o2 d (by decide)
  refine a.o _ _ s (fun g=>?_)
  clear a K
  try simp only[nm]
  refine rdy 5 rfl fun K a=>?_
  obtain⟨m3,ac,a1,aa,ab⟩:=zds (P:=Tryz.prog) (t:=24) q104 q113 o2
  refine zan (by rfl) ?_
  refine wp_conv_d (some 11) _ _ _ _ _ _ rfl rfl rfl ac ?_
  have T:=ab _ _ T
  have d:=d.grown a1 (fun e=>q2 (Option.some.inj e))
  have r:Ext f m3:=zab s a1 aa
  refine a.o _ _ r (fun g=>?_)
  clear a K
  try simp only[nm]
  refine rdy 6 rfl fun K a=>?_
  go_simp
  refine(rExpand_any _ (hmac b c) wraN 32 _ (zbx _ _) T (by decide) (by omega) (L.o.ext (y.o.trans r))).mono ?_
  rintro e G ⟨U,rfl,o4,l⟩
  have T:=T.below l
  have d:=d.below l
  have D:Row1 G U ((hExpand (hmac b c) wraN 32).map bval):=Row1.of_own o4
  obtain⟨a4,c4,E,_⟩:=id D
  rw[show ((hExpand (hmac b c) wraN 32).map bval).length=32 from by rw[q100];simp only[zbb]]at E
  subst E
  have C:Ext f G:=r.trans l
  refine a.o _ _ C (fun g=>?_)
  clear a K
  try simp only[nm]
  refine rdy 7 rfl fun K a=>?_
  refine zan (by rfl) ?_
  refine zbu _ _ 24 24 rfl 5 q104 one_u8 _ _ _ _ _ _ rfl rfl j 0 _ _ d ((hExpand (hmac b c) wraN 32).map bval) (by rw[q100];simp only[zbb];rfl) (fun h=>⟨rfl,row_src D (hExpand (hmac b c) wraN 32) (by rw[q133]) (q101 _) (Ext.refl _) h⟩) (by rw[q100];simp only[zbb];decide) (zac _) ?_
  intro F z a3
  have B:Ext f F:=zab C a3 a8.o
  refine a.o _ _ B (fun g=>?_)
  clear a K
  try simp only[nm]
  refine dne ?_
  have k:=z
  have m:=B
  generalize F=ag at k m⊢
  have q:=splice_zeros 32 (hExpand (hmac b c) wraN 32)
  rw[show List.replicate (32 - (hExpand (hmac b c) wraN 32).length) (0:UInt8)=[]from by rw[zbb];rfl,q129]at q
  rw[q]at k
  have V:=jh (N.o.below m)
  have p:Hid ((Tryz.prog.info? 23).map (·.size)=some ((hExpand (hmac b c) wraN 32).map bval).length):=jh (zaf (zbb _ _ _))
  have a0:Hid (((hExpand (hmac b c) wraN 32).map bval).length=((zB 32).map bval).length):=jh (by rw[q100,q100,zbb,zB_length])
  clear q
  go_wp2_with (first|(refine slb j k q102 p.o ?_)|(refine ssb (A+1+1) ((hExpand (hmac b c) wraN 32).map bval) V.o a0.o p.o (zac _) ?_;intro ak a2 Z))
  refine bodyPost_ret (zam rfl _ (A+1+1) _ _ _ _ rfl a2 q102 p.o) rfl ?_
  exact⟨rfl,zab (y.o.trans m) Z ad.o⟩
 refine zan (by rfl) ?_
 refine zbl (some 10) _ _ _ _ rfl rfl #[.int .u8 119,.int .u8 114,.int .u8 97,.int .u8 112] i0 (.int .u8 0) q104 ai.o al.o (by rw[O.o];decide) (by rw[O.o];decide) (by rw[O.o];kernel_rfl) ?_
 obtain⟨v,Y⟩:=nxq (World.alloc W.drew (.cells #[.int .u8 119,.int .u8 114,.int .u8 97,.int .u8 112] 5))
 rw[←Y]
 have b1:Ext W.drew v:=by rw[Y];exact Ext.alloc _ _
 obtain⟨g1,a7⟩:=nxq ((W.drew).heap.size)
 rw[←a7]
 have d:=d.below b1
 have i:Row1 v (.slice (some ⟨g1,0,none⟩) 4 4) (([119,114,97,112]:List UInt8).map bval):=by rw[Y,a7];exact Row1.made _ _ _ _ _ _ rfl rfl rfl (by unfold maxLen;omega)
 have o1:World.ownsRow v (f).heap.size 5 1 (.slice (some ⟨g1,0,none⟩) 4 4) 4 (([119,114,97,112]:List UInt8).map bval):=by rw[Y,a7];exact own_made _ _ _ _ _ _ rfl rfl (by unfold maxLen;omega) I.size
 clear Y a7
 have u:Ext f v:=I.trans b1
 have q1:g1≠j:=own_ne_blk o1 d (by decide)
 refine a.o _ _ u (fun g=>?_)
 clear a K
 try simp only[nm]
 refine wpAnyH_ready (rs:=[3,5]) (by kernel_rfl) (by simp) (AllReadyH.cons rfl (fun K a=>?_) (AllReadyH.cons rfl (fun K a=>?_) AllReadyH.nil))
 ·go_simp
  refine(rExtract_any _ _ b c v ((zbz (n:=32) Q.o (by rw[q100];exact R.o) (by unfold maxLen;omega)).below u) ((zbz (n:=32) J.o (by rw[q100];exact M.o) (by unfold maxLen;omega)).below u) (by rw[R.o];decide) (by rw[M.o];decide) (L.o.ext (y.o.trans u))).mono ?_
  rintro e x ⟨rfl,H⟩
  have i:=i.below H
  have o1:=zbn o1 H
  have d:=d.below H
  have s:Ext f x:=u.trans H
  refine a.o _ _ s (fun g=>?_)
  clear a K
  try simp only[nm]
  refine rdy 5 rfl fun K a=>?_
  obtain⟨m3,ac,a1,aa,ab⟩:=zds (P:=Tryz.prog) (t:=24) q104 q113 o1
  refine zan (by rfl) ?_
  refine wp_conv_d (some 11) _ _ _ _ _ _ rfl rfl rfl ac ?_
  have i:=ab _ _ i
  have d:=d.grown a1 (fun e=>q1 (Option.some.inj e))
  have r:Ext f m3:=zab s a1 aa
  refine a.o _ _ r (fun g=>?_)
  clear a K
  try simp only[nm]
  refine rdy 6 rfl fun K a=>?_
  go_simp
  refine(rExpand_any _ (hmac b c) wraN 32 _ (zbx _ _) i (by decide) (by omega) (L.o.ext (y.o.trans r))).mono ?_
  rintro e G ⟨U,rfl,o4,l⟩
  have i:=i.below l
  have d:=d.below l
  have D:Row1 G U ((hExpand (hmac b c) wraN 32).map bval):=Row1.of_own o4
  obtain⟨a4,c4,E,_⟩:=id D
  rw[show ((hExpand (hmac b c) wraN 32).map bval).length=32 from by rw[q100];simp only[zbb]]at E
  subst E
  have C:Ext f G:=r.trans l
  refine a.o _ _ C (fun g=>?_)
  clear a K
  try simp only[nm]
  refine rdy 7 rfl fun K a=>?_
  refine zan (by rfl) ?_
  refine zbu _ _ 24 24 rfl 5 q104 one_u8 _ _ _ _ _ _ rfl rfl j 0 _ _ d ((hExpand (hmac b c) wraN 32).map bval) (by rw[q100];simp only[zbb];rfl) (fun h=>⟨rfl,row_src D (hExpand (hmac b c) wraN 32) (by rw[q133]) (q101 _) (Ext.refl _) h⟩) (by rw[q100];simp only[zbb];decide) (zac _) ?_
  intro F z a3
  have B:Ext f F:=zab C a3 a8.o
  refine a.o _ _ B (fun g=>?_)
  clear a K
  try simp only[nm]
  refine dne ?_
  have k:=z
  have m:=B
  generalize F=ag at k m⊢
  have q:=splice_zeros 32 (hExpand (hmac b c) wraN 32)
  rw[show List.replicate (32 - (hExpand (hmac b c) wraN 32).length) (0:UInt8)=[]from by rw[zbb];rfl,q129]at q
  rw[q]at k
  have V:=jh (N.o.below m)
  have p:Hid ((Tryz.prog.info? 23).map (·.size)=some ((hExpand (hmac b c) wraN 32).map bval).length):=jh (zaf (zbb _ _ _))
  have a0:Hid (((hExpand (hmac b c) wraN 32).map bval).length=((zB 32).map bval).length):=jh (by rw[q100,q100,zbb,zB_length])
  clear q
  go_wp2_with (first|(refine slb j k q102 p.o ?_)|(refine ssb (A+1+1) ((hExpand (hmac b c) wraN 32).map bval) V.o a0.o p.o (zac _) ?_;intro ak a2 Z))
  refine bodyPost_ret (zam rfl _ (A+1+1) _ _ _ _ rfl a2 q102 p.o) rfl ?_
  exact⟨rfl,zab (y.o.trans m) Z ad.o⟩
 obtain⟨x,ap,aj,ar,an⟩:=zds (P:=Tryz.prog) (t:=24) q104 q113 o1
 refine zan (by rfl) ?_
 refine wp_conv_d (some 11) _ _ _ _ _ _ rfl rfl rfl ap ?_
 have i:=an _ _ i
 have d:=d.grown aj (fun e=>q1 (Option.some.inj e))
 have s:Ext f x:=zab u aj ar
 refine a.o _ _ s (fun g=>?_)
 clear a K
 try simp only[nm]
 refine rdy 3 rfl fun K a=>?_
 go_simp
 refine(rExtract_any _ _ b c x ((zbz (n:=32) Q.o (by rw[q100];exact R.o) (by unfold maxLen;omega)).below s) ((zbz (n:=32) J.o (by rw[q100];exact M.o) (by unfold maxLen;omega)).below s) (by rw[R.o];decide) (by rw[M.o];decide) (L.o.ext (y.o.trans s))).mono ?_
 rintro e m3 ⟨rfl,b3⟩
 have i:=i.below b3
 have d:=d.below b3
 have r:Ext f m3:=s.trans b3
 refine a.o _ _ r (fun g=>?_)
 clear a K
 try simp only[nm]
 refine rdy 6 rfl fun K a=>?_
 go_simp
 refine(rExpand_any _ (hmac b c) wraN 32 _ (zbx _ _) i (by decide) (by omega) (L.o.ext (y.o.trans r))).mono ?_
 rintro e G ⟨U,rfl,o4,l⟩
 have i:=i.below l
 have d:=d.below l
 have D:Row1 G U ((hExpand (hmac b c) wraN 32).map bval):=Row1.of_own o4
 obtain⟨a4,c4,E,_⟩:=id D
 rw[show ((hExpand (hmac b c) wraN 32).map bval).length=32 from by rw[q100];simp only[zbb]]at E
 subst E
 have C:Ext f G:=r.trans l
 refine a.o _ _ C (fun g=>?_)
 clear a K
 try simp only[nm]
 refine rdy 7 rfl fun K a=>?_
 refine zan (by rfl) ?_
 refine zbu _ _ 24 24 rfl 5 q104 one_u8 _ _ _ _ _ _ rfl rfl j 0 _ _ d ((hExpand (hmac b c) wraN 32).map bval) (by rw[q100];simp only[zbb];rfl) (fun h=>⟨rfl,row_src D (hExpand (hmac b c) wraN 32) (by rw[q133]) (q101 _) (Ext.refl _) h⟩) (by rw[q100];simp only[zbb];decide) (zac _) ?_
 intro F z a3
 have B:Ext f F:=zab C a3 a8.o
 refine a.o _ _ B (fun g=>?_)
 clear a K
 try simp only[nm]
 refine dne ?_
 have k:=z
 have m:=B
 generalize F=ag at k m⊢
 have q:=splice_zeros 32 (hExpand (hmac b c) wraN 32)
 rw[show List.replicate (32 - (hExpand (hmac b c) wraN 32).length) (0:UInt8)=[]from by rw[zbb];rfl,q129]at q
 rw[q]at k
 have V:=jh (N.o.below m)
 have p:Hid ((Tryz.prog.info? 23).map (·.size)=some ((hExpand (hmac b c) wraN 32).map bval).length):=jh (zaf (zbb _ _ _))
 have a0:Hid (((hExpand (hmac b c) wraN 32).map bval).length=((zB 32).map bval).length):=jh (by rw[q100,q100,zbb,zB_length])
 clear q
 go_wp2_with (first|(refine slb j k q102 p.o ?_)|(refine ssb (A+1+1) ((hExpand (hmac b c) wraN 32).map bval) V.o a0.o p.o (zac _) ?_;intro ak a2 Z))
 refine bodyPost_ret (zam rfl _ (A+1+1) _ _ _ _ rfl a2 q102 p.o) rfl ?_
 exact⟨rfl,zab (y.o.trans m) Z ad.o⟩
theorem rWrap_any(a b key:List UInt8)(w:World)(ht:a.length=32)(hd:b.length=32)(hk:key.length=32)(hG:GlobK w):
  Calls Tryz.prog 54 #[.agg (a.map bval).toArray,.agg (b.map bval).toArray,.agg (key.map bval).toArray] w fun e I=>∃x,e=.returned (.tuple #[x,.int .i64 (shErr b a)])∧Row1 I x ((wraL a b key).map bval)∧Below w.heap.size w I:=by
 obtain⟨i0,hi,a2,a5,aa⟩:=info_parts Tryz.info5
 obtain⟨ac,ah,af,a7,HB,HG⟩:=jq6 hi a2 a5 aa (boxes3 w (a.map bval) (b.map bval) (key.map bval) 23 23 23) hG
 obtain⟨a0,a4,C,an,ae,ar⟩:=jq6 ht hd hk (zaf ht) (zaf hd) (zaf hk)
 clear ht hd hk hG hi a2 a5 aa
 go_enter Tryz.func54,Tryz.ntmps54
 go_upto_region 1 with(fail)
 obtain⟨f,k,i,d⟩:=HB.o
 change Code.wp _ _ _ _ (((w.alloc (.cells (a.map bval).toArray 23)).alloc (.cells (b.map bval).toArray 23)).alloc (.cells (key.map bval).toArray 23))
 generalize ((w.alloc (.cells (a.map bval).toArray 23)).alloc (.cells (b.map bval).toArray 23)).alloc (.cells (key.map bval).toArray 23)=wa at*
 obtain⟨A,hA⟩:=nxq w.heap.size
 have au:Hid (w.heap.size≤A):=jh (by omega)
 rw[←hA]at f k i⊢
 obtain⟨f,k,i⟩:=jq3 f k i
 have d:Hid (Ext w wa):=jh d
 clear hA HB
 have r:Hid (wraL a b key=if ladB b a=zer then[]else pubB b++sealB (betK (pubB b) (ladB b a)) (zB 12) key a):=jh rfl
 have X:=jh (rladpub_any b wa a4.o)
 have m:Hid ((pubB b).length=32):=jh (pubB_length _)
 obtain⟨e,he⟩:=nxq (pubB b)
 rw[←he]at X m r
 clear he
 have ak:=jh (zaf m.o)
 have ao:Hid ((e.map bval).length=(ints .u8 (List.replicate 32 0)).length):=jh (by rw[q100,zaa,m.o];rfl)
 go_wp2_with (first|(refine slb (A+1) k.o q102 ae.o ?_))
 refine X.o.mono ?_
 rintro ex J ⟨rfl,q⟩
 obtain⟨f,k,i⟩:=xq3 f k i q
 have d:=xxt d q
 clear q X
 obtain⟨v,y⟩:=jq2 (Blk.made J (ints .u8 (List.replicate 32 0)) 23) (Ext.alloc J (.cells (ints .u8 (List.replicate 32 0)).toArray 23))
 go_upto_region 2 with(refine ssb J.heap.size (e.map bval) v.o ao.o ak.o (zac _) ?_;intro w7 a6 L)
 have p:=jh (zab y.o L (q101 _))
 obtain⟨f,k,i⟩:=xq3 f k i p.o
 have d:=xxt d p.o
 have s:=jh a6
 generalize J.heap.size=E at*
 clear a6 L v y p
 have G:=jh (rshared_any b a w7 a4.o a0.o)
 have R:Hid ((ladB b a).length=32):=jh (ladB_length _ _)
 have u:Hid (shErr b a=if ladB b a=zer then 21 else 0):=jh rfl
 obtain⟨z,l⟩:=nxq (ladB b a)
 rw[←l]at G R r u
 have T:=R
 obtain⟨er,a1⟩:=nxq (shErr b a)
 rw[←a1]at G u
 obtain⟨a8,ag⟩:=jq2 a1 (zaf T.o)
 have aq:Hid ((z.map bval).length=(ints .u8 (List.replicate 32 0)).length):=jh (by rw[q100,zaa,T.o];rfl)
 clear l a1 R
 go_wp2_with (first|(refine slb (A) f.o q102 an.o ?_)|(refine slb (A+1) k.o q102 ae.o ?_))
 refine G.o.mono ?_
 rintro ex F ⟨rfl,q⟩
 obtain⟨f,i,s⟩:=xq3 f i s q
 have d:=xxt d q
 clear q G k
 obtain⟨v,y⟩:=jq2 (Blk.made F (ints .u8 (List.replicate 32 0)) 23) (Ext.alloc F (.cells (ints .u8 (List.replicate 32 0)).toArray 23))
 go_upto_region 3 with(refine ssb F.heap.size (z.map bval) v.o aq.o ag.o (zac _) ?_;intro j ad a9)
 have p:=jh (zab y.o a9 (q101 _))
 obtain⟨f,i,s⟩:=xq3 f i s p.o
 have d:=xxt d p.o
 have al:=jh ad
 generalize F.heap.size=Z at*
 clear ad a9 v y p
 by_cases l:z=zer
 ·have D:Hid (er=21):=jh (by rw[u.o,if_pos l])
  have U:Hid (wraL a b key=[]):=jh (by rw[r.o,if_pos l])
  clear l u r
  rw[D.o]
  go_wp2_with fail
  refine bodyPost_ret (res_two rfl _ _) rfl ?_
  exact⟨_,by rw[←a8.o,D.o];rfl,by rw[U.o];exact Row1.nil _,d.o⟩
 have D:Hid (er=0):=jh (by rw[u.o,if_neg l])
 have U:Hid (wraL a b key=e++sealB (betK e z) (zB 12) key a):=jh (by rw[r.o,if_neg l])
 clear l u r
 rw[D.o]
 go_upto_region 5 with(fail)
 have H:Ext j j.drew:=Ext.drew _
 refine wp_region_held_drew (S:=fun I=>Ext j I) (by kernel_rfl) H (fun g=>?_)
 refine tke 0 (.slice (some ⟨E,0,none⟩) 32 32) rfl (zbp _ _ _ _ (.pointer (some ⟨E,0,none⟩)) (.slice (some ⟨E,0,none⟩) 32 32) none none (by rfl) rfl rfl rfl rfl (fun w=>zdf q102 q111 (by omega) _ w)) g ?_
 simp only[nm]
 refine tke 2 (.agg ((e).map bval).toArray) rfl (sld E 0 (fun w h=>zax s.o h) q102 ak.o) g ?_
 simp only[nm]
 refine tke 3 (.agg ((z).map bval).toArray) rfl (sld Z 0 (fun w h=>zax al.o h) q102 ag.o) g ?_
 simp only[nm]
 refine tke 5 (.agg ((zB 12).map bval).toArray) rfl (yi_build _ _ _ _ rwra_nonce (by rfl) rfl (by simp)) g ?_
 simp only[nm]
 refine tke 6 (.slice (some ⟨A+1+1,0,none⟩) 32 32) rfl (zbp _ _ _ _ (.pointer (some ⟨A+1+1,0,none⟩)) (.slice (some ⟨A+1+1,0,none⟩) 32 32) none none (by rfl) rfl rfl rfl rfl (fun w=>zdf q102 q111 (by omega) _ w)) g ?_
 simp only[nm]
 refine tke 7 (.slice (some ⟨A,0,none⟩) 32 32) rfl (zbp _ _ _ _ (.pointer (some ⟨A,0,none⟩)) (.slice (some ⟨A,0,none⟩) 32 32) none none (by rfl) rfl rfl rfl rfl (fun w=>zdf q102 q111 (by omega) _ w)) g ?_
 simp only[nm]
 refine rdy 1 rfl fun K c=>?_
 refine zan (by rfl) ?_
 refine zbh _ _ 24 rfl (j.drew).heap.size 5 i0 (.int .u8 0) 1 q104 ac.o ah.o af.o a7.o rfl (.slice none 0 0) 0 [] rfl (World.ownsRow_nil _ _ _ _) rfl ((zbz (n:=32) s.o (by rw[q100];exact m.o) (by unfold maxLen;omega)).below H) (zac _) (by rw[q100,m.o];unfold maxLen;omega) (by rw[q100,m.o];omega) (q101 _) ?_
 intro P B O ap
 have b1:Ext j.drew B:=zbf (Ext.refl _) (World.ownsRow_nil _ _ 5 _) (q101 _) ap
 rw[q115]at O
 have M:Row1 B P ((e).map bval):=Row1.of_own O
 have W:Ext j B:=H.trans b1
 have t:World.ownsRow B (j).heap.size 5 1 P (e.length) (e.map bval):=zcp (zbv O (H).size) (by rw[q100];omega) rfl
 refine c.o _ _ W (fun g=>?_)
 clear c K
 try simp only[nm]
 refine rdy 4 rfl fun K c=>?_
 go_simp
 refine(rwra_any e z B m.o T.o (HG.o.ext (d.o.trans W))).mono ?_
 rintro e m2 ⟨rfl,Q⟩
 have M:=M.below Q
 have t:=zbn t Q
 have N:Ext j m2:=W.trans Q
 refine c.o _ _ N (fun g=>?_)
 clear c K
 try simp only[nm]
 refine rdy 8 rfl fun K c=>?_
 go_simp
 refine(rSeal_any (betK e z) (zB 12) key a _ _ m2 (betK_length _ _) (zB_length _) ((zbz (n:=32) i.o (by rw[q100];exact C.o) (by unfold maxLen;omega)).below N) ((zbz (n:=32) f.o (by rw[q100];exact a0.o) (by unfold maxLen;omega)).below N) (by rw[C.o];decide) (by rw[a0.o];decide)).mono ?_
 rintro e m3 ⟨x3,rfl,o3,b3⟩
 have M:=M.below b3
 have t:=zbn t b3
 have r3:Row1 m3 x3 ((sealB (betK e z) (zB 12) key a).map bval):=Row1.of_own o3
 obtain⟨a3,c3,ai,_⟩:=id r3
 rw[show ((sealB (betK e z) (zB 12) key a).map bval).length=48 from by rw[q100,sealB_length,C.o]]at ai
 subst ai
 have N3:Ext j m3:=N.trans b3
 refine c.o _ _ N3 (fun g=>?_)
 clear c K
 try simp only[nm]
 refine rdy 9 rfl fun K c=>?_
 refine zan (by rfl) ?_
 refine zbh _ _ 24 rfl (j).heap.size 5 i0 (.int .u8 0) 1 q104 ac.o ah.o af.o a7.o rfl (P) (e).length _ rfl t rfl r3 (zac _) (by rw[q100,sealB_length,m.o,C.o];unfold maxLen;omega) (by rw[q100,sealB_length,m.o,C.o];omega) N3.size ?_
 intro V m4 am L
 have Y:Ext j m4:=zbf N3 t (q101 _) L
 have r4:Row1 m4 V (((e++sealB (betK e z) (zB 12) key a)).map bval):=by have h:=Row1.of_own am;simpa using h
 refine c.o _ _ Y (fun g=>?_)
 clear c K
 try simp only[nm]
 refine tke 10 V rfl (yi_assign _ (V) (by rfl) rfl rfl) g ?_
 simp only[nm]
 refine rdy 11 rfl fun K c=>?_
 go_simp
 refine c.o _ _ Y (fun g=>?_)
 clear c K
 try simp only[nm]
 refine dne ?_
 have aj:=xxt d Y
 have ab:=jh r4
 generalize m4=w5 at aj ab⊢
 go_wp2_with fail
 refine bodyPost_ret (res_two rfl _ _) rfl ?_
 exact⟨_,by rw[←a8.o,D.o];rfl,by rw[U.o];exact ab.o,aj.o⟩
theorem res_threeP {P:Program} {a:Func} {i j k:Nat}(b:a.results=#[.tmp i,.tmp j,.tmp k])(tmps:Array Value)(w:World):
  (results a tmps).run P w=.ok (.tuple #[tmps.getD i undef,tmps.getD j undef,tmps.getD k undef]) w:=by
 unfold results
 rw[b]
 simp
theorem own_ne_man {w:World} {base n g:Nat} {x:Value} {f c:List Value}(h:w.ownsRow base 5 1 x n f)(d:Blk w g c 30):∀k,x.ownBlock=some k→k≠g:=fun k e=>by
 rcases h.2 with⟨rfl,_⟩|⟨b,j,i,rfl,_,h2,_⟩
 ·cases e
 obtain rfl:b=k:=Option.some.inj e
 rintro rfl
 have a:w.heap[b]? =some (.cells c.toArray 30):=d
 rw[h2]at a
 injection a with a
 injection a with _ h4
 exact absurd h4 (by decide)
theorem issU_nil(r s d k:List UInt8)(a ver:Int):issU r s d k a ver []=⟨ver,1,merR [blkS (keyOf k ver) ver 0 z64],wraB (pubB d) (sha256 (keyOf k ver)) (keyOf k ver),a,edPub s,certG r a (edPub s),z64⟩:=rfl
theorem rsign_yes(root key:List UInt8)(a:Int)(w:World)(d:root.length=32)(g:key.length=32)(h1:smallB a=true)(h2:mayB key=true)(k:GV w):
  Calls Tryz.prog 52 #[.agg (root.map bval).toArray,.int .i64 a,.agg (key.map bval).toArray] w fun e b=>e=.returned (.tuple #[.agg (certC a key (certG root a key)).toArray,.int .i64 0])∧Below w.heap.size w b:=by
 have h:=rSignCert_any root key a w d g k
 obtain⟨j,c,i,f⟩:=sgn_yes h1 h2 root
 rwa [j,c,i,f]at h
theorem rManifest_nil(r s d k:List UInt8)(j ver:Int)(w:World)(hr:r.length=32)(hs:s.length=32)(hd:d.length=32)(hk:k.length=32)(h1:smallB j=true)(h2:smallB ver=true)(g:GlobK w)(hG:GV w):
  Calls Tryz.prog 24 #[.agg (setC r s d k).toArray,.int .i64 j,.int .i64 ver,.slice none 0 0] w fun e N=>∃x l,e=.returned (.tuple #[x,l,.int .i64 0])∧N.ownsRow w.heap.size 5 1 x 300 ((issM r s d k j ver []).pack.map bval)∧Below w.heap.size w N:=by
 obtain⟨HR,HS,HD,bg,al,ag⟩:=jq6 hr hs hd hk h1 h2
 obtain⟨az,ba,b4,HB⟩:=jq4 g hG (set_size hr hs hd hk) (And.intro (Blk.made w (setC r s d k) 53) (Ext.alloc w (.cells (setC r s d k).toArray 53)))
 go_enter Tryz.func24,Tryz.ntmps24
 go_upto_region 1 with(fail)
 obtain⟨h0,hE⟩:=HB.o
 change Code.wp _ _ _ _ (w.alloc (.cells (setC r s d k).toArray 53))
 generalize w.alloc (.cells (setC r s d k).toArray 53)=wa at*
 obtain⟨A,hA⟩:=nxq w.heap.size
 rw[←hA]at h0⊢
 have F:=jh h0
 have p:Hid (Ext w wa):=jh hE
 have HO:Hid (w.heap.size=A):=jh (by omega)
 clear HB hE h0 hA
 clear hr hs hd hk h1 h2 g hG
 have an:=jh (rKeyOf_any r s d k ver wa HR.o HS.o HD.o bg.o (az.o.ext p.o))
 obtain⟨q,aa⟩:=nxq (keyOf k ver)
 rw[←aa]at an
 have bb:=jh aa
 have a3:Hid (q.length=32):=jh (by rw[aa];exact keyOf_length _ _)
 have ae:=jh (zaf a3.o)
 clear aa
 go_wp2_with (refine wpList_load_mid rfl _ _ rfl A 0 rfl _ _ F.o.range Tryz.underlying53 rfl b4.o ?_)
 refine an.o.mono ?_
 rintro e w1 ⟨rfl,v⟩
 have F:=xxb F v
 obtain⟨HZ,aw⟩:=jq2 (Blk.made w1 zero32 23) (Ext.alloc w1 (.cells zero32.toArray 23))
 have p:=xxt p v
 have ay:Hid ((q.map bval).length=zero32.length):=jh (by rw[q100,a3.o];rfl)
 clear v an
 go_upto_region 2 with(refine ssb w1.heap.size (q.map bval) HZ.o ay.o ae.o (zac _) ?_;intro w2 aj au)
 obtain⟨a5,hT⟩:=nxq w1.heap.size
 rw[←hT]at aj⊢
 have m:=jh (zab aw.o au (q101 _))
 have F:=xxb F m.o
 have M:=jh aj
 have p:=xxt p m.o
 clear hT aj au HZ aw m ay b4
 go_wp2_with (refine slb a5 M.o q102 ae.o ?_)
 refine(rMake_nil q ver w2 a3.o ag.o).mono ?_
 rintro e C ⟨lx,rfl,b0,v⟩
 have V:=jh b0
 obtain⟨F,M⟩:=xq2 F M v
 have p:=xxt p v
 clear b0 v
 obtain⟨b5,av,ao,_⟩:=set_parts F.o HR.o HS.o HD.o
 obtain⟨ar,P,ab,D,a0⟩:=jq5 b5 av ao (ba.o.ext p.o) (az.o.ext p.o)
 clear b5 av ao F
 go_upto_region 5 with(fail)
 have J:Ext C C.drew:=Ext.drew _
 refine wp_region_held_drew (S:=fun N=>Ext C N) (by kernel_rfl) J (fun i=>?_)
 refine tke 0 (.pointer (some ⟨A,0,none⟩)) rfl (zaz (.pointer (some ⟨A,0,none⟩)) (by rfl) (fun w _=>by go_simp)) i ?_
 simp only[nm]
 refine tke 1 (.agg ((r).map bval).toArray) rfl (sld A 0 (fun w h=>rng_ext ar.o h) q102 (zaf HR.o)) i ?_
 simp only[nm]
 refine tke 2 (.int .i64 j) rfl (zbe _ (.int .i64 j) (by rfl) rfl rfl) i ?_
 simp only[nm]
 refine tke 3 (.pointer (some ⟨A,32,none⟩)) rfl (zaz (.pointer (some ⟨A,32,none⟩)) (by rfl) (fun w _=>by go_simp)) i ?_
 simp only[nm]
 refine tke 4 (.agg ((s).map bval).toArray) rfl (sld A 32 (fun w h=>rng_ext P.o h) q102 (zaf HS.o)) i ?_
 simp only[nm]
 refine Fl.go (f:=10) (d:=14) (zs:=(certC 0 z32 z64)) (T:=28) (B:=(C).heap.size) ?_ i
 clear i
 refine Fl.step 5 rfl rfl rfl rfl rfl zero_crt (fun _ _ h1 h2=>h1.trans h2) (fun _ h=>h.size) (fun z1 u K ad X g=>?_)
 have G:Ext C z1:=J.trans ad
 clear X
 go_simp
 refine(rpublic_f s z1 HS.o (D.o.ext G).1.1 (D.o.ext G).1.2.2.1 (D.o.ext G).1.2.2.2.1 (D.o.ext G).1.2.2.2.2).mono ?_
 rintro e m1 ⟨rfl,Z⟩
 have z:Ext C m1:=G.trans Z
 refine g.o (.agg ((edPub s).map bval).toArray) _ Z z ?_
 clear g K u
 try simp only[nm]
 refine Fl.step 6 rfl rfl rfl rfl rfl zero_crt (fun _ _ h1 h2=>h1.trans h2) (fun _ h=>h.size) (fun z2 u K ai X g=>?_)
 have a1:Ext C z2:=z.trans ai
 clear X
 go_simp
 refine(rsign_yes r (edPub s) j z2 HR.o (zdh s) al.o (mayB_true (may_pub s)) (D.o.ext a1)).mono ?_
 rintro e m2 ⟨rfl,Q⟩
 have H:Ext C m2:=a1.trans Q
 refine g.o (.tuple #[.agg (certC j (edPub s) (certG r j (edPub s))).toArray,.int .i64 0]) _ Q H ?_
 clear g K u
 try simp only[nm]
 refine Fl.take 7 (.tuple #[.agg (certC j (edPub s) (certG r j (edPub s))).toArray,.int .i64 0]) rfl (fun u=>zbe _ (.tuple #[.agg (certC j (edPub s) (certG r j (edPub s))).toArray,.int .i64 0]) (by rfl) rfl rfl) ?_
 simp only[nm]
 refine Fl.take 8 (.agg (certC j (edPub s) (certG r j (edPub s))).toArray) rfl (fun u=>zaz (.agg (certC j (edPub s) (certG r j (edPub s))).toArray) (by rfl) (fun w _=>by go_simp)) ?_
 simp only[nm]
 refine Fl.take 9 (.int .i64 0) rfl (fun u=>zaz (.int .i64 0) (by rfl) (fun w _=>by go_simp)) ?_
 simp only[nm]
 refine Fl.last rfl rfl rfl rfl zero_crt (fun _ _ h1 h2=>h1.trans h2) (fun _ h=>h.size) (fun m3 g3 b3 i l3 z3=>?_)
 try simp only[nm]
 have N3:Ext C m3:=H.trans b3
 refine rdy 11 rfl fun K g=>?_
 refine zan (by rfl) ?_
 refine zar _ _ _ rfl g3 (certC j (edPub s) (certG r j (edPub s))) rfl rfl _ _ z3 (by rw[zcc (zdh s) (zen _ _ _),zcc zbk zdc]) (cert_size (zdh s) (zen _ _ _)) (certC_one _ _ _) ?_
 intro m4 af a9
 have W:Ext C m4:=zab N3 a9 l3
 refine g.o _ _ W (fun i=>?_)
 clear g K
 try simp only[nm]
 refine rdy 12 rfl fun K g=>?_
 go_simp
 refine g.o _ _ W (fun i=>?_)
 clear g K
 try simp only[nm]
 refine dne ?_
 obtain⟨a2,m,ax⟩:=jq3 af W l3
 generalize m4=w4 at a2 m ax⊢
 generalize g3=bf at a2 ax⊢
 obtain⟨P,ab⟩:=jq2 (rng_ext P.o m.o) (rng_ext ab.o m.o)
 have M:=xxb M m.o
 have V:=jh (V.o.below m.o)
 have p:=xxt p m.o
 obtain⟨D,a0⟩:=jq2 (D.o.ext m.o) (a0.o.ext m.o)
 clear m ar
 go_upto_region 8 with(fail)
 generalize w4=w5 at*
 have J:Ext w5 w5.drew:=Ext.drew _
 refine wp_region_held_drew (S:=fun N=>Ext w5 N) (by kernel_rfl) J (fun i=>?_)
 refine tke 0 (.pointer (some ⟨A,64,none⟩)) rfl (zaz (.pointer (some ⟨A,64,none⟩)) (by rfl) (fun w _=>by go_simp)) i ?_
 simp only[nm]
 refine tke 1 (.agg ((d).map bval).toArray) rfl (sld A 64 (fun w h=>rng_ext ab.o h) q102 (zaf HD.o)) i ?_
 simp only[nm]
 refine tke 3 (.slice (some ⟨a5,0,none⟩) 32 32) rfl (zbp _ _ _ _ (.pointer (some ⟨a5,0,none⟩)) (.slice (some ⟨a5,0,none⟩) 32 32) none none (by rfl) rfl rfl rfl rfl (fun w=>zdf q102 q111 (by omega) _ w)) i ?_
 simp only[nm]
 refine tke 5 (.agg ((q).map bval).toArray) rfl (sld a5 0 (fun w h=>zax M.o h) q102 ae.o) i ?_
 simp only[nm]
 refine rdy 2 rfl fun K g=>?_
 go_simp
 refine(rladpub_any d w5.drew HD.o).mono ?_
 rintro e m1 ⟨rfl,Z⟩
 have z:Ext w5 m1:=J.trans Z
 refine g.o _ _ z (fun i=>?_)
 clear g K
 try simp only[nm]
 refine rdy 4 rfl fun K g=>?_
 go_simp
 refine(zdp _ q m1 ((zbz (n:=32) M.o (by rw[q100];exact a3.o) (by unfold maxLen;omega)).below z) (by rw[a3.o];decide) (a0.o.ext z)).mono ?_
 rintro e m2 ⟨rfl,Q⟩
 have H:Ext w5 m2:=z.trans Q
 refine g.o _ _ H (fun i=>?_)
 clear g K
 try simp only[nm]
 refine rdy 6 rfl fun K g=>?_
 go_simp
 refine(rWrap_any (pubB d) (sha256 q) q m2 (pubB_length d) (zbc _) a3.o (a0.o.ext H)).mono ?_
 rw[sh_pub (zbc _) HD.o,wraL_pub q HD.o (zbc _)]
 rintro e m3 ⟨R,rfl,r3,b3⟩
 have N3:Ext w5 m3:=H.trans b3
 refine g.o _ _ N3 (fun i=>?_)
 clear g K
 try simp only[nm]
 refine tke 7 (.tuple #[R,.int .i64 0]) rfl (zbe _ (.tuple #[R,.int .i64 0]) (by rfl) rfl rfl) i ?_
 simp only[nm]
 refine tke 8 R rfl (zaz (R) (by rfl) (fun w _=>by go_simp)) i ?_
 simp only[nm]
 refine tke 9 (.int .i64 0) rfl (zaz (.int .i64 0) (by rfl) (fun w _=>by go_simp)) i ?_
 simp only[nm]
 refine tke 10 R rfl (yi_assign _ (R) (by rfl) rfl rfl) i ?_
 simp only[nm]
 refine rdy 11 rfl fun K g=>?_
 go_simp
 refine g.o _ _ N3 (fun i=>?_)
 clear g K
 try simp only[nm]
 refine dne ?_
 obtain⟨U,m⟩:=jq2 r3 N3
 generalize m3=w6 at U m⊢
 generalize R=xw at U⊢
 obtain⟨P,V⟩:=jq2 (rng_ext P.o m.o) (V.o.below m.o)
 have a2:=xxb a2 m.o
 have p:=xxt p m.o
 obtain⟨D,a0⟩:=jq2 (D.o.ext m.o) (a0.o.ext m.o)
 clear m ab M
 obtain⟨la,lc,rfl⟩:∃a c,lx=.slice a 1 c:=by
  obtain⟨bk,hr,hl,_⟩:=V.o
  obtain⟨a,c,e,_⟩:=hr
  exact⟨a,c,by rw[e,hl];rfl⟩
 obtain⟨O,I,L,rfl⟩:=row_form U.o
 obtain⟨E,a4⟩:=nxq (⟨ver,1,merR [blkS q ver 0 z64],wraB (pubB d) (sha256 q) q,j,edPub s,certG r j (edPub s),z64⟩:Man)
 obtain⟨t,a7⟩:=nxq (issM r s d k j ver [])
 have ap:Hid (∀w,(Instr.build 30 #[(0,.int .i64 ver),(1,.int .i64 1),(2,.agg ((merR [blkS q ver 0 z64]).map bval).toArray),(3,.slice O I L),(4,.agg (certC j (edPub s) (certG r j (edPub s))).toArray)]).run Tryz.prog w=.ok (.agg (manC E (.slice O I L)).toArray) w):=jh (fun w=>by rw[a4];exact build_man O I L (merR_length _) (zdh s) (zen _ _ _) w)
 have bc:Hid E.Arr:=jh (by rw[a4];exact⟨merR_length _,zdh _,zen _ _ _,zdc⟩)
 have am:issU r s d k j ver []=E:=by rw[issU_nil,a4,bb.o]
 have ah:E.ok=true:=by
  have h:=issM_ok (root:=r) (sgn:=s) (dev:=d) (key:=k) (id:=j) (ver:=ver) (b:=[]) al.o ag.o (by simp)
  have h2:(issM r s d k j ver []).ok=(issU r s d k j ver []).ok:=Man.put_ok _ _
  rwa [h2,am]at h
 have bi:Hid (E.err=0):=jh (Man.yes ah).1
 have b6:Hid (E.sgd s=t):=jh (by
  rw[a7]
  unfold issM
  rw[am]
  exact if_pos ah)
 have a6:Hid t.Arr:=jh (by rw[a7];exact issM_arr _ _ _ _ _ _ _)
 have a8:t.ok=true:=by rw[a7];exact issM_ok al.o ag.o (by simp)
 have be:Hid (t.err=0):=jh (Man.yes a8).1
 have bh:Hid (t.pacL=t.pack):=jh (Man.pac_yes a8)
 have bd:Hid (t.pack.length=300):=jh (Man.pack_length a6.o (Man.ok_all a8).2.2.2.1)
 have bj:=jh a7
 have U:Hid (Row1 w6 (.slice O I L) (E.wr.map bval)):=jh (by rw[a4];exact U.o)
 clear a4 a7 am ah a8
 generalize w6=y at*
 go_upto_region 11 with(fail)
 have J:Ext y y.drew:=Ext.drew _
 refine wp_region_held_drew (S:=fun N=>Ext y N) (by kernel_rfl) J (fun i=>?_)
 refine tke 0 (.pointer (some ⟨A,32,none⟩)) rfl (zaz (.pointer (some ⟨A,32,none⟩)) (by rfl) (fun w _=>by go_simp)) i ?_
 simp only[nm]
 refine tke 1 (.agg ((s).map bval).toArray) rfl (sld A 32 (fun w h=>rng_ext P.o h) q102 (zaf HS.o)) i ?_
 simp only[nm]
 refine tke 2 (.int .i64 ver) rfl (zbe _ (.int .i64 ver) (by rfl) rfl rfl) i ?_
 simp only[nm]
 refine tke 3 (.slice la 1 lc) rfl (zbe _ (.slice la 1 lc) (by rfl) rfl rfl) i ?_
 simp only[nm]
 refine tke 4 (.int .i64 1) rfl (zaz (.int .i64 1) (by rfl) (fun w _=>by go_simp)) i ?_
 simp only[nm]
 refine tke 5 (.slice la 1 lc) rfl (zbe _ (.slice la 1 lc) (by rfl) rfl rfl) i ?_
 simp only[nm]
 refine tke 7 (.slice O I L) rfl (zbe _ (.slice O I L) (by rfl) rfl rfl) i ?_
 simp only[nm]
 refine tke 8 (.agg (certC j (edPub s) (certG r j (edPub s))).toArray) rfl (sld bf 0 (fun w h=>zax a2.o h) q167 (cert_size (zdh s) (zen _ _ _))) i ?_
 simp only[nm]
 refine Fl.go (f:=14) (d:=16) (zs:=(manC manZ (.slice none 0 0))) (T:=30) (B:=(y).heap.size) ?_ i
 clear i
 refine Fl.step 6 rfl rfl rfl rfl rfl zero_man (fun _ _ h1 h2=>h1.trans h2) (fun _ h=>h.size) (fun z1 u K ad X g=>?_)
 have G:Ext y z1:=J.trans ad
 clear X
 go_simp
 refine(rRoot_any [blkS q ver 0 z64] _ z1 (by intro l hl;simp at hl;subst hl;rw[blkS_length zdc];decide) (by simp) (V.o.below G) (a0.o.ext G)).mono ?_
 rintro e m1 ⟨rfl,Z⟩
 have z:Ext y m1:=G.trans Z
 refine g.o (.agg ((merR [blkS q ver 0 z64]).map bval).toArray) _ Z z ?_
 clear g K u
 try simp only[nm]
 refine Fl.take 9 (.agg (manC E (.slice O I L)).toArray) rfl (fun u=>yi_build _ _ _ _ ap.o (by rfl) rfl (by simp[Act.eval,Act.put])) ?_
 simp only[nm]
 refine Fl.step 10 rfl rfl rfl rfl rfl zero_man (fun _ _ h1 h2=>h1.trans h2) (fun _ h=>h.size) (fun z2 u K ai X g=>?_)
 have a1:Ext y z2:=z.trans ai
 clear X
 have h:=rSignManifest_any s E (.slice O I L) z2 HS.o bc.o (U.o.below a1) (D.o.ext a1).1
 rw[b6.o,bi.o]at h
 go_simp
 refine h.mono ?_
 rintro e m2 ⟨x2,rfl,Y,Q⟩
 clear h
 have Y:=zbv Y a1.size
 have H:Ext y m2:=a1.trans Q
 refine g.o (.tuple #[.agg (manC t x2).toArray,.int .i64 0]) _ Q H ?_
 clear g K u
 try simp only[nm]
 refine Fl.take 11 (.tuple #[.agg (manC t x2).toArray,.int .i64 0]) rfl (fun u=>zbe _ (.tuple #[.agg (manC t x2).toArray,.int .i64 0]) (by rfl) rfl rfl) ?_
 simp only[nm]
 refine Fl.take 12 (.agg (manC t x2).toArray) rfl (fun u=>zaz (.agg (manC t x2).toArray) (by rfl) (fun w _=>by go_simp)) ?_
 simp only[nm]
 refine Fl.take 13 (.int .i64 0) rfl (fun u=>zaz (.int .i64 0) (by rfl) (fun w _=>by go_simp)) ?_
 simp only[nm]
 refine Fl.last rfl rfl rfl rfl zero_man (fun _ _ h1 h2=>h1.trans h2) (fun _ h=>h.size) (fun m3 g3 b3 i l3 z3=>?_)
 try simp only[nm]
 have Y:=zbn Y b3
 have N3:Ext y m3:=H.trans b3
 refine rdy 15 rfl fun K g=>?_
 refine zan (by rfl) ?_
 refine zar _ _ _ rfl g3 (manC t x2) rfl rfl _ _ z3 (by rw[zba a6.o,zba zcx]) (zcj a6.o _) (zda (row_cell (Row1.of_own Y))) ?_
 intro m4 af a9
 have oF:=own_far Y a9 (own_ne_man Y z3)
 have W:Ext y m4:=zab N3 a9 l3
 refine g.o _ _ W (fun i=>?_)
 clear g K
 try simp only[nm]
 refine rdy 16 rfl fun K g=>?_
 go_simp
 refine g.o _ _ W (fun i=>?_)
 clear g K
 try simp only[nm]
 refine dne ?_
 obtain⟨ac,aq,m⟩:=jq3 af oF W
 generalize m4=w8 at ac m aq⊢
 generalize g3=b8 at ac⊢
 generalize x2=xm at*
 have p:=xxt p m.o
 obtain⟨b7,ak⟩:=jq2 (zcj a6.o xm) (rPackManifest_any t xm w8 a6.o (Row1.of_own aq.o))
 rw[be.o,bh.o,bd.o]at ak
 clear m P V a2 U ap
 go_wp2_with (refine wpList_load_mid rfl _ _ rfl b8 0 rfl _ _ ac.o.range q118 rfl b7.o ?_)
 refine ak.o.mono ?_
 rintro e w9 ⟨x,rfl,ho,v⟩
 have b9:=jh (zbv ho p.o.size)
 have p:=xxt p v
 clear ho v ak
 go_wp2_with fail
 refine bodyPost_ret (res_threeP rfl _ _) rfl ?_
 exact⟨x,_,rfl,by rw[←bj.o];exact b9.o,p.o⟩
theorem str_cells(l:List UInt8):Lib.strCells ⟨l.toArray⟩=l.map bval:=by
 simp only[Lib.strCells]
 rfl
theorem wp_append_str {P:Program} {o:Oper} {a:Act} {w:World} {K:Act→World→Prop} {Q:Exit→Act→World→Prop}(d:Option Nat)(j x:Operand)(t u:TypeId)(z:o.dst=d)
  (k:o.op=.call { callee:=.builtin .append,args:=#[j,x],argTypes:=#[t,u] })
  (base:Nat) (e:TypeId) (i:TypeInfo) (ht:P.underlying t=some (.slice e)) (q:P.underlying u=some .string) (y:P.info? e=some i) (D:i.zero=some (.int .u8 0)) (p:i.size=1) (m:i.bytes=1)
  (v:Value) (n:Nat) (g:List Value) (l:List UInt8) (C:a.eval j=v) (E:w.ownsRow base e 1 v n g) (r:a.eval x=.string ⟨l.toArray⟩)
  (F:n+l.length≤1000000000) (s:base≤w.heap.size)
  (h:∀c b,b.ownsRow base e 1 c (n+l.length) (g++l.map bval)→w.grownBy b v.ownBlock→K (a.put d c) b):o.wp P a w K Q:=by
 subst z
 have f:(⟨l.toArray⟩:ByteArray).size=l.length:=by simp[ByteArray.size]
 obtain⟨c,b,B,h2,A,_⟩:=Lib.run_append_own_string (P:=P) w base t u o.type e i ht q y D p m v n g E ⟨l.toArray⟩ (by rw[f];unfold maxLen;omega) (by rw[f];omega) s
 rw[f,str_cells]at h2
 unfold Oper.wp execOp
 simp only[k,resolve,invoke,builtin,Sem.run_bind,Sem.run_pure,Result.andThen_ok,List.map_toArray,q139,q135,C,r,B]
 exact h c b h2 A
section
theorem setK_is(nm:List UInt8)(n:Int):sha256 (zbi n++nm)=setK nm n:=rfl
section
variable {r s d k x:List UInt8}
theorem lay_setA(b:r.length=32)(a:x.length=32):laid (setC r s d k) 0 (x.map bval)=setC x s d k:=
 laid_mid (pre:=[]) (by rw[q100,q100,b,a])
theorem lay_setB(a:r.length=32)(c:s.length=32)(b:x.length=32):laid (setC r s d k) 32 (x.map bval)=setC r x d k:=by
 have h:=laid_mid (pre:=r.map bval) (mid:=s.map bval) (post:=d.map bval++k.map bval) (new:=x.map bval) (by rw[q100,q100,c,b])
 rwa [q100,a]at h
theorem lay_setC(e:r.length=32)(a:s.length=32)(b:d.length=32)(c:x.length=32):laid (setC r s d k) 64 (x.map bval)=setC r s x k:=by
 have h:=laid_mid (pre:=r.map bval++s.map bval) (mid:=d.map bval) (post:=k.map bval) (new:=x.map bval) (by rw[q100,q100,b,c])
 rw[q105,q100,q100,e,a]at h
 simpa[setC]using h
theorem lay_setD(b:r.length=32)(a:s.length=32)(f:d.length=32)(e:k.length=32)(c:x.length=32):laid (setC r s d k) 96 (x.map bval)=setC r s d x:=by
 have h:=laid_mid (pre:=r.map bval++(s.map bval++d.map bval)) (mid:=k.map bval) (post:=[]) (new:=x.map bval) (by rw[q100,q100,e,c])
 rw[q105,q105,q100,q100,q100,b,a,f]at h
 simpa[setC]using h
theorem setC_one(r s d k:List UInt8):∀v∈setC r s d k,v.oneCell'=true:=by
 intro v a
 unfold setC at a
 simp only[List.mem_append]at a
 rcases a with h|h|h|h<;>exact zac _ v h
theorem result_blk_s {w:World} {b:Func} {p:Tmp} {ty:TypeId}(h:b.results=#[.cell p ty])(tmps:Array Value)(c:Nat)(t:TypeId)(a:List Value)(e:Array Field)
  (f:tmps.getD p undef=.pointer (some ⟨c,0,none⟩)) (d:Blk w c a t) (i:Tryz.prog.underlying ty=some (.struct e)) (g:(Tryz.prog.info? ty).map (·.size)=some a.length):
  (results b tmps).run Tryz.prog w=.ok (.agg a.toArray) w:=
 results_cell_row h tmps w c t a.toArray (0,0) _ f d i rfl (by simpa using g)
theorem set_there {w:World} {c o n:Nat} {a:List Value} {t:TypeId}(h:Blk w c a t)(d:o+n≤a.length):w.there c o n:=fun j b=>by
 refine⟨?_,h.free (o+j)⟩
 rw[h.cell (o+j),List.getElem?_eq_getElem (by omega)]
 rfl
theorem build_set(b:r.length=32)(c:s.length=32)(f:d.length=32)(g:k.length=32)(w:World):(Instr.build 53 #[(0,.agg (r.map bval).toArray),(1,.agg (s.map bval).toArray),(2,.agg (d.map bval).toArray),(3,.agg (k.map bval).toArray)]).run Tryz.prog w=.ok (.agg (setC r s d k).toArray) w:=by
 refine run_build w _ _ _ ?_
 have e:Instr.fill (fun i=>(#[(0,32),(32,32),(64,32),(96,32)]:Array (Nat×Nat))[i]?) (setC z32 z32 z32 z32).toArray [(0,.agg (r.map bval).toArray),(1,.agg (s.map bval).toArray),(2,.agg (d.map bval).toArray),(3,.agg (k.map bval).toArray)]=some (setC r s d k).toArray:=by
  have a:∀{l:List UInt8},l.length=32→(l.map bval).length=32:=fun h=>by rw[q100,h]
  have lz:=a zbk
  rw[show setC z32 z32 z32 z32=[]++(z32.map bval++(z32.map bval++(z32.map bval++z32.map bval)))from rfl,zdo (off:=0) (n:=32) (new:=r.map bval) rfl rfl rfl lz (a b)]
  rw[show []++(r.map bval++(z32.map bval++(z32.map bval++z32.map bval)))=r.map bval++(z32.map bval++(z32.map bval++z32.map bval))from rfl,zdo (off:=32) (n:=32) (new:=s.map bval) rfl rfl (a b) lz (a c)]
  rw[show r.map bval++(s.map bval++(z32.map bval++z32.map bval))=(r.map bval++s.map bval)++(z32.map bval++z32.map bval) by simp,zdo (off:=64) (n:=32) (new:=d.map bval) rfl rfl (by rw[q105,a b,a c]) lz (a f)]
  rw[show (r.map bval++s.map bval)++(d.map bval++z32.map bval)=(r.map bval++(s.map bval++d.map bval))++(z32.map bval++[]) by simp,zdo (off:=96) (n:=32) (new:=k.map bval) rfl rfl (by rw[q105,q105,a b,a c,a f]) lz (a g)]
  rw[Instr.fill]
  simp[setC]
 refine Eq.trans ?_ e
 kernel_rfl
end
theorem rSetOf_any(n:Int)(w:World)(hG:GlobK w):Calls Tryz.prog 23 #[.int .i64 n] w fun e x=>e=.returned (.agg (setC (setRoot n) (setSign n) (setDev n) (setKey n)).toArray)∧Below w.heap.size w x:=by
 obtain⟨R,hi,Z,a0,a1⟩:=info_parts Tryz.info5
 obtain⟨O,M,U,P⟩:=jq4 hi Z a0 a1
 clear hi Z a0 a1
 have V:=jh hG
 have HB:=jh (boxes3 w (setC z32 z32 z32 z32) ([.string ⟨([114,111,111,116]:List UInt8).toArray⟩,.string ⟨([115,105,103,110,101,114]:List UInt8).toArray⟩,.string ⟨([100,101,118,105,99,101]:List UInt8).toArray⟩,.string ⟨([107,101,121]:List UInt8).toArray⟩]) (setC z32 z32 z32 z32) 53 9 86)
 clear hG
 go_enter Tryz.func23,Tryz.ntmps23
 go_wp2_with fail
 obtain⟨h1,h2,Y,hE⟩:=HB.o
 change Code.wp _ _ _ _ (((w.alloc (.cells (setC z32 z32 z32 z32).toArray 53)).alloc (.cells ([.string ⟨([114,111,111,116]:List UInt8).toArray⟩,.string ⟨([115,105,103,110,101,114]:List UInt8).toArray⟩,.string ⟨([100,101,118,105,99,101]:List UInt8).toArray⟩,.string ⟨([107,101,121]:List UInt8).toArray⟩]).toArray 9)).alloc (.cells (setC z32 z32 z32 z32).toArray 86))
 generalize (((w.alloc (.cells (setC z32 z32 z32 z32).toArray 53)).alloc (.cells ([.string ⟨([114,111,111,116]:List UInt8).toArray⟩,.string ⟨([115,105,103,110,101,114]:List UInt8).toArray⟩,.string ⟨([100,101,118,105,99,101]:List UInt8).toArray⟩,.string ⟨([107,101,121]:List UInt8).toArray⟩]).toArray 9)).alloc (.cells (setC z32 z32 z32 z32).toArray 86))=wr at*
 obtain⟨T,W⟩:=nxq (w.heap.size+1+1)
 rw[←W]at Y⊢
 obtain⟨L,hL⟩:=nxq (w.heap.size+1)
 rw[←hL]at h2⊢
 obtain⟨C,hC⟩:=nxq w.heap.size
 rw[←hC]at h1⊢
 have m:Hid (w.heap.size=C∧C<L∧L<T):=jh (by omega)
 have Q:Hid (T≠L):=jh (by omega)
 obtain⟨y,r,z⟩:=jq3 h1 h2 Y
 have p:Hid (Ext w wr):=jh hE
 clear W hL hC h1 h2 Y hE HB
 refine wp_loop_rounds 5 ?_
 rw[rounds_succ]
 go_upto_region 6 with(fail)
 have i:Ext wr wr.drew:=Ext.drew _
 refine wp_region_held_drew (S:=fun x=>Far (T) wr x) (by kernel_rfl) (zap i) (fun a=>?_)
 refine tke 0 (.int .i64 0) rfl (zbe _ (.int .i64 0) (by rfl) rfl rfl) a ?_
 simp only[nm]
 refine tke 1 (.int .i64 n) rfl (zbe _ (.int .i64 n) (by rfl) rfl rfl) a ?_
 simp only[nm]
 refine tke 3 (.slice (some ⟨L,0,none⟩) 4 4) rfl (zbe _ (.slice (some ⟨L,0,none⟩) 4 4) (by rfl) rfl rfl) a ?_
 simp only[nm]
 refine tke 4 (.int .i64 0) rfl (zbe _ (.int .i64 0) (by rfl) rfl rfl) a ?_
 simp only[nm]
 refine tke 5 (.pointer (some ⟨L,0,none⟩)) rfl (zaz (.pointer (some ⟨L,0,none⟩)) (by rfl) (fun w _=>by go_simp)) a ?_
 simp only[nm]
 refine tke 6 (.string ⟨(([114,111,111,116]:List UInt8)).toArray⟩) rfl (zaz (.string ⟨([114,111,111,116]:List UInt8).toArray⟩) (by rfl) (fun w h=>by have H:=zat r.o Q.o h 0 _ rfl;simp only[q117]at H;go_simp)) a ?_
 simp only[nm]
 refine rdy 2 rfl fun K b=>?_
 go_simp
 refine(rone_any n wr.drew).mono ?_
 rintro e E ⟨I,rfl,g,G⟩
 have g:=zbv g i.size
 have j:Ext wr E:=i.trans G
 refine b.o _ _ (zap j) (fun a=>?_)
 clear b K
 try simp only[nm]
 refine rdy 7 rfl fun K b=>?_
 refine zan (by rfl) ?_
 refine wp_append_str (some 18) _ _ 24 9 rfl rfl wr.heap.size 5 R q104 q147 O.o M.o U.o P.o I 8 _ [114,111,111,116] rfl g rfl (by decide) j.size ?_
 intro X s u D
 rw[←q110]at u
 have l:Ext wr s:=zbf j g (q101 _) D
 refine b.o _ _ (zap l) (fun a=>?_)
 clear b K
 try simp only[nm]
 refine rdy 8 rfl fun K b=>?_
 have h:=zdp _ _ s (Row1.of_own u) (by rw[q105,zcg];decide) (V.o.ext (p.o.trans l))
 rw[setK_is]at h
 go_simp
 refine h.mono ?_
 rintro e k ⟨rfl,B⟩
 clear h
 have d:Ext wr k:=l.trans B
 refine b.o _ _ (zap d) (fun a=>?_)
 clear b K
 try simp only[nm]
 refine tke 9 (.pointer (some ⟨T,0,none⟩)) rfl (zaz (.pointer (some ⟨T,0,none⟩)) (by rfl) (fun w _=>by go_simp)) a ?_
 simp only[nm]
 refine rdy 10 rfl fun K b=>?_
 have v:=zak z.o d
 have J:=zak y.o d
 have F:=zak r.o d
 refine zan (by rfl) ?_
 refine wp_store_mid _ _ _ rfl T 0 ((setK [114,111,111,116] n).map bval).toArray rfl rfl (by rw[q136,q100,zaj];exact set_there v (by rw[zee (by simp[z32,zaj]) (by simp[z32,zaj]) (by simp[z32,zaj]) (by simp[z32,zaj])];decide)) (by rw[q136];exact zaf (zaj _ _)) (all_oneCell_toArray (zac _)) ?_
 rw[List.toList_toArray]
 have t:=Blk.setCells ((setK [114,111,111,116] n).map bval) _ 0 _ v
 have f:=zbm (c:=T) ((setK [114,111,111,116] n).map bval) 0 _ _ (zay k _)
 rw[lay_setA zbk (zaj _ _)]at t
 generalize k.setCells T 0 ((setK [114,111,111,116] n).map bval)=A at*
 refine b.o _ _ (zby d f) (fun a=>?_)
 clear b K
 try simp only[nm]
 refine dne ?_
 have z:=jh t
 have y:=jh (J.grown f (by have:=m.o;simp;omega))
 have r:=jh (F.grown f (by have:=m.o;simp;omega))
 have p:=jh (zab (p.o.trans d) f (by have:=m.o;omega))
 generalize A=wr at*
 go_wp2_with fail
 rw[rounds_succ]
 go_upto_region 6 with(fail)
 have i:Ext wr wr.drew:=Ext.drew _
 refine wp_region_held_drew (S:=fun x=>Far (T) wr x) (by kernel_rfl) (zap i) (fun a=>?_)
 refine tke 0 (.int .i64 1) rfl (zbe _ (.int .i64 1) (by rfl) rfl rfl) a ?_
 simp only[nm]
 refine tke 1 (.int .i64 n) rfl (zbe _ (.int .i64 n) (by rfl) rfl rfl) a ?_
 simp only[nm]
 refine tke 3 (.slice (some ⟨L,0,none⟩) 4 4) rfl (zbe _ (.slice (some ⟨L,0,none⟩) 4 4) (by rfl) rfl rfl) a ?_
 simp only[nm]
 refine tke 4 (.int .i64 1) rfl (zbe _ (.int .i64 1) (by rfl) rfl rfl) a ?_
 simp only[nm]
 refine tke 5 (.pointer (some ⟨L,1,none⟩)) rfl (zaz (.pointer (some ⟨L,1,none⟩)) (by rfl) (fun w _=>by go_simp)) a ?_
 simp only[nm]
 refine tke 6 (.string ⟨(([115,105,103,110,101,114]:List UInt8)).toArray⟩) rfl (zaz (.string ⟨([115,105,103,110,101,114]:List UInt8).toArray⟩) (by rfl) (fun w h=>by have H:=zat r.o Q.o h 1 _ rfl;simp only[q117]at H;go_simp)) a ?_
 simp only[nm]
 refine rdy 2 rfl fun K b=>?_
 go_simp
 refine(rone_any n wr.drew).mono ?_
 rintro e E ⟨I,rfl,g,G⟩
 have g:=zbv g i.size
 have j:Ext wr E:=i.trans G
 refine b.o _ _ (zap j) (fun a=>?_)
 clear b K
 try simp only[nm]
 refine rdy 7 rfl fun K b=>?_
 refine zan (by rfl) ?_
 refine wp_append_str (some 18) _ _ 24 9 rfl rfl wr.heap.size 5 R q104 q147 O.o M.o U.o P.o I 8 _ [115,105,103,110,101,114] rfl g rfl (by decide) j.size ?_
 intro X s u D
 rw[←q110]at u
 have l:Ext wr s:=zbf j g (q101 _) D
 refine b.o _ _ (zap l) (fun a=>?_)
 clear b K
 try simp only[nm]
 refine rdy 8 rfl fun K b=>?_
 have h:=zdp _ _ s (Row1.of_own u) (by rw[q105,zcg];decide) (V.o.ext (p.o.trans l))
 rw[setK_is]at h
 go_simp
 refine h.mono ?_
 rintro e k ⟨rfl,B⟩
 clear h
 have d:Ext wr k:=l.trans B
 refine b.o _ _ (zap d) (fun a=>?_)
 clear b K
 try simp only[nm]
 refine tke 9 (.pointer (some ⟨T,32,none⟩)) rfl (zaz (.pointer (some ⟨T,32,none⟩)) (by rfl) (fun w _=>by go_simp)) a ?_
 simp only[nm]
 refine rdy 10 rfl fun K b=>?_
 have v:=zak z.o d
 have J:=zak y.o d
 have F:=zak r.o d
 refine zan (by rfl) ?_
 refine wp_store_mid _ _ _ rfl T 32 ((setK [115,105,103,110,101,114] n).map bval).toArray rfl rfl (by rw[q136,q100,zaj];exact set_there v (by rw[zee (by simp[z32,zaj]) (by simp[z32,zaj]) (by simp[z32,zaj]) (by simp[z32,zaj])];decide)) (by rw[q136];exact zaf (zaj _ _)) (all_oneCell_toArray (zac _)) ?_
 rw[List.toList_toArray]
 have t:=Blk.setCells ((setK [115,105,103,110,101,114] n).map bval) _ 32 _ v
 have f:=zbm (c:=T) ((setK [115,105,103,110,101,114] n).map bval) 32 _ _ (zay k _)
 rw[lay_setB (zaj _ _) zbk (zaj _ _)]at t
 generalize k.setCells T 32 ((setK [115,105,103,110,101,114] n).map bval)=A at*
 refine b.o _ _ (zby d f) (fun a=>?_)
 clear b K
 try simp only[nm]
 refine dne ?_
 have z:=jh t
 have y:=jh (J.grown f (by have:=m.o;simp;omega))
 have r:=jh (F.grown f (by have:=m.o;simp;omega))
 have p:=jh (zab (p.o.trans d) f (by have:=m.o;omega))
 generalize A=wr at*
 go_wp2_with fail
 rw[rounds_succ]
 go_upto_region 6 with(fail)
 have i:Ext wr wr.drew:=Ext.drew _
 refine wp_region_held_drew (S:=fun x=>Far (T) wr x) (by kernel_rfl) (zap i) (fun a=>?_)
 refine tke 0 (.int .i64 2) rfl (zbe _ (.int .i64 2) (by rfl) rfl rfl) a ?_
 simp only[nm]
 refine tke 1 (.int .i64 n) rfl (zbe _ (.int .i64 n) (by rfl) rfl rfl) a ?_
 simp only[nm]
 refine tke 3 (.slice (some ⟨L,0,none⟩) 4 4) rfl (zbe _ (.slice (some ⟨L,0,none⟩) 4 4) (by rfl) rfl rfl) a ?_
 simp only[nm]
 refine tke 4 (.int .i64 2) rfl (zbe _ (.int .i64 2) (by rfl) rfl rfl) a ?_
 simp only[nm]
 refine tke 5 (.pointer (some ⟨L,2,none⟩)) rfl (zaz (.pointer (some ⟨L,2,none⟩)) (by rfl) (fun w _=>by go_simp)) a ?_
 simp only[nm]
 refine tke 6 (.string ⟨(([100,101,118,105,99,101]:List UInt8)).toArray⟩) rfl (zaz (.string ⟨([100,101,118,105,99,101]:List UInt8).toArray⟩) (by rfl) (fun w h=>by have H:=zat r.o Q.o h 2 _ rfl;simp only[q117]at H;go_simp)) a ?_
 simp only[nm]
 refine rdy 2 rfl fun K b=>?_
 go_simp
 refine(rone_any n wr.drew).mono ?_
 rintro e E ⟨I,rfl,g,G⟩
 have g:=zbv g i.size
 have j:Ext wr E:=i.trans G
 refine b.o _ _ (zap j) (fun a=>?_)
 clear b K
 try simp only[nm]
 refine rdy 7 rfl fun K b=>?_
 refine zan (by rfl) ?_
 refine wp_append_str (some 18) _ _ 24 9 rfl rfl wr.heap.size 5 R q104 q147 O.o M.o U.o P.o I 8 _ [100,101,118,105,99,101] rfl g rfl (by decide) j.size ?_
 intro X s u D
 rw[←q110]at u
 have l:Ext wr s:=zbf j g (q101 _) D
 refine b.o _ _ (zap l) (fun a=>?_)
 clear b K
 try simp only[nm]
 refine rdy 8 rfl fun K b=>?_
 have h:=zdp _ _ s (Row1.of_own u) (by rw[q105,zcg];decide) (V.o.ext (p.o.trans l))
 rw[setK_is]at h
 go_simp
 refine h.mono ?_
 rintro e k ⟨rfl,B⟩
 clear h
 have d:Ext wr k:=l.trans B
 refine b.o _ _ (zap d) (fun a=>?_)
 clear b K
 try simp only[nm]
 refine tke 9 (.pointer (some ⟨T,64,none⟩)) rfl (zaz (.pointer (some ⟨T,64,none⟩)) (by rfl) (fun w _=>by go_simp)) a ?_
 simp only[nm]
 refine rdy 10 rfl fun K b=>?_
 have v:=zak z.o d
 have J:=zak y.o d
 have F:=zak r.o d
 refine zan (by rfl) ?_
 refine wp_store_mid _ _ _ rfl T 64 ((setK [100,101,118,105,99,101] n).map bval).toArray rfl rfl (by rw[q136,q100,zaj];exact set_there v (by rw[zee (by simp[z32,zaj]) (by simp[z32,zaj]) (by simp[z32,zaj]) (by simp[z32,zaj])];decide)) (by rw[q136];exact zaf (zaj _ _)) (all_oneCell_toArray (zac _)) ?_
 rw[List.toList_toArray]
 have t:=Blk.setCells ((setK [100,101,118,105,99,101] n).map bval) _ 64 _ v
 have f:=zbm (c:=T) ((setK [100,101,118,105,99,101] n).map bval) 64 _ _ (zay k _)
 rw[lay_setC (zaj _ _) (zaj _ _) zbk (zaj _ _)]at t
 generalize k.setCells T 64 ((setK [100,101,118,105,99,101] n).map bval)=A at*
 refine b.o _ _ (zby d f) (fun a=>?_)
 clear b K
 try simp only[nm]
 refine dne ?_
 have z:=jh t
 have y:=jh (J.grown f (by have:=m.o;simp;omega))
 have r:=jh (F.grown f (by have:=m.o;simp;omega))
 have p:=jh (zab (p.o.trans d) f (by have:=m.o;omega))
 generalize A=wr at*
 go_wp2_with fail
 rw[rounds_succ]
 go_upto_region 6 with(fail)
 have i:Ext wr wr.drew:=Ext.drew _
 refine wp_region_held_drew (S:=fun x=>Far (T) wr x) (by kernel_rfl) (zap i) (fun a=>?_)
 refine tke 0 (.int .i64 3) rfl (zbe _ (.int .i64 3) (by rfl) rfl rfl) a ?_
 simp only[nm]
 refine tke 1 (.int .i64 n) rfl (zbe _ (.int .i64 n) (by rfl) rfl rfl) a ?_
 simp only[nm]
 refine tke 3 (.slice (some ⟨L,0,none⟩) 4 4) rfl (zbe _ (.slice (some ⟨L,0,none⟩) 4 4) (by rfl) rfl rfl) a ?_
 simp only[nm]
 refine tke 4 (.int .i64 3) rfl (zbe _ (.int .i64 3) (by rfl) rfl rfl) a ?_
 simp only[nm]
 refine tke 5 (.pointer (some ⟨L,3,none⟩)) rfl (zaz (.pointer (some ⟨L,3,none⟩)) (by rfl) (fun w _=>by go_simp)) a ?_
 simp only[nm]
 refine tke 6 (.string ⟨(([107,101,121]:List UInt8)).toArray⟩) rfl (zaz (.string ⟨([107,101,121]:List UInt8).toArray⟩) (by rfl) (fun w h=>by have H:=zat r.o Q.o h 3 _ rfl;simp only[q117]at H;go_simp)) a ?_
 simp only[nm]
 refine rdy 2 rfl fun K b=>?_
 go_simp
 refine(rone_any n wr.drew).mono ?_
 rintro e E ⟨I,rfl,g,G⟩
 have g:=zbv g i.size
 have j:Ext wr E:=i.trans G
 refine b.o _ _ (zap j) (fun a=>?_)
 clear b K
 try simp only[nm]
 refine rdy 7 rfl fun K b=>?_
 refine zan (by rfl) ?_
 refine wp_append_str (some 18) _ _ 24 9 rfl rfl wr.heap.size 5 R q104 q147 O.o M.o U.o P.o I 8 _ [107,101,121] rfl g rfl (by decide) j.size ?_
 intro X s u D
 rw[←q110]at u
 have l:Ext wr s:=zbf j g (q101 _) D
 refine b.o _ _ (zap l) (fun a=>?_)
 clear b K
 try simp only[nm]
 refine rdy 8 rfl fun K b=>?_
 have h:=zdp _ _ s (Row1.of_own u) (by rw[q105,zcg];decide) (V.o.ext (p.o.trans l))
 rw[setK_is]at h
 go_simp
 refine h.mono ?_
 rintro e k ⟨rfl,B⟩
 clear h
 have d:Ext wr k:=l.trans B
 refine b.o _ _ (zap d) (fun a=>?_)
 clear b K
 try simp only[nm]
 refine tke 9 (.pointer (some ⟨T,96,none⟩)) rfl (zaz (.pointer (some ⟨T,96,none⟩)) (by rfl) (fun w _=>by go_simp)) a ?_
 simp only[nm]
 refine rdy 10 rfl fun K b=>?_
 have v:=zak z.o d
 have J:=zak y.o d
 have F:=zak r.o d
 refine zan (by rfl) ?_
 refine wp_store_mid _ _ _ rfl T 96 ((setK [107,101,121] n).map bval).toArray rfl rfl (by rw[q136,q100,zaj];exact set_there v (by rw[zee (by simp[z32,zaj]) (by simp[z32,zaj]) (by simp[z32,zaj]) (by simp[z32,zaj])];decide)) (by rw[q136];exact zaf (zaj _ _)) (all_oneCell_toArray (zac _)) ?_
 rw[List.toList_toArray]
 have t:=Blk.setCells ((setK [107,101,121] n).map bval) _ 96 _ v
 have f:=zbm (c:=T) ((setK [107,101,121] n).map bval) 96 _ _ (zay k _)
 rw[lay_setD (zaj _ _) (zaj _ _) (zaj _ _) zbk (zaj _ _)]at t
 generalize k.setCells T 96 ((setK [107,101,121] n).map bval)=A at*
 refine b.o _ _ (zby d f) (fun a=>?_)
 clear b K
 try simp only[nm]
 refine dne ?_
 have z:=jh t
 have y:=jh (J.grown f (by have:=m.o;simp;omega))
 have r:=jh (F.grown f (by have:=m.o;simp;omega))
 have p:=jh (zab (p.o.trans d) f (by have:=m.o;omega))
 generalize A=wr at*
 go_wp2_with fail
 rw[rounds_succ]
 have q:=set_parts z.o (zaj _ _) (zaj _ _) (zaj _ _)
 obtain⟨a6,a3,a5,a7⟩:=jq4 q.1 q.2.1 q.2.2.1 q.2.2.2
 have N:Hid (∀nm,(Tryz.prog.info? 23).map (·.size)=some ((setK nm n).map bval).length):=jh (fun nm=>zaf (zaj _ _))
 have a2:Hid ((Tryz.prog.info? 53).map (·.size)=some (setC (setK [114,111,111,116] n) (setK [115,105,103,110,101,114] n) (setK [100,101,118,105,99,101] n) (setK [107,101,121] n)).length):=jh (set_size (zaj _ _) (zaj _ _) (zaj _ _) (zaj _ _))
 have a8:Hid ((setC (setK [114,111,111,116] n) (setK [115,105,103,110,101,114] n) (setK [100,101,118,105,99,101] n) (setK [107,101,121] n)).length=(setC z32 z32 z32 z32).length):=jh (by rw[zee (zaj _ _) (zaj _ _) (zaj _ _) (zaj _ _),zee zbk zbk zbk zbk])
 clear q
 go_wp2_with (first|(refine wpList_load_mid rfl _ _ rfl T 0 rfl _ _ a6.o q102 rfl (N.o _) ?_)|(refine wpList_load_mid rfl _ _ rfl T 32 rfl _ _ a3.o q102 rfl (N.o _) ?_)|(refine wpList_load_mid rfl _ _ rfl T 64 rfl _ _ a5.o q102 rfl (N.o _) ?_)|(refine wpList_load_mid rfl _ _ rfl T 96 rfl _ _ a7.o q102 rfl (N.o _) ?_)|(refine zch rfl _ _ rfl #[(0,.agg ((setK [114,111,111,116] n).map bval).toArray),(1,.agg ((setK [115,105,103,110,101,114] n).map bval).toArray),(2,.agg ((setK [100,101,118,105,99,101] n).map bval).toArray),(3,.agg ((setK [107,101,121] n).map bval).toArray)] (by simp[Act.eval,Act.put]) _ (build_set (zaj _ _) (zaj _ _) (zaj _ _) (zaj _ _) _) ?_)|(refine ssb C (setC (setK [114,111,111,116] n) (setK [115,105,103,110,101,114] n) (setK [100,101,118,105,99,101] n) (setK [107,101,121] n)) y.o a8.o a2.o (setC_one _ _ _ _) ?_;intro w9 a4 a9))
 refine bodyPost_ret (result_blk_s rfl _ C _ _ _ rfl a4 Tryz.underlying53 a2.o) rfl ?_
 exact⟨rfl,zab p.o a9 (by have:=m.o;omega)⟩
end
theorem pck_i64wrap(n:Int):IntKind.i64.wrap n=wrap64 n:=IntWalk.i64_left n
theorem beW_cut {m:List UInt8} {s k:Nat}(h:k+4≤64):beW ((m.drop s).take 64) k=beW m (s+k):=by
 have g:∀j,j<64→((m.drop s).take 64).getD j 0=m.getD (s+j) 0:=fun j a=>by
  simp only[List.getD,List.getElem?_take,if_pos a,List.getElem?_drop]
 unfold beW
 rw[g k (by omega),g (k+1) (by omega),g (k+2) (by omega),g (k+3) (by omega)]
 rfl
theorem wTop_cut(m:List UInt8)(s:Nat):∀k,k≤16→wTop ((m.drop s).take 64) 0 k=wTop m s k
 |0,_=>rfl
 |k+1,h=>by
  rw[wTop,wTop,wTop_cut m s k (by omega),q117,beW_cut (by omega)]
theorem wSch_cut(m:List UInt8)(s:Nat):∀n,wSch ((m.drop s).take 64) 0 n=wSch m s n
 |0=>wTop_cut m s 16 (q101 _)
 |n+1=>by rw[wSch,wSch,wSch_cut m s n]
theorem hRun_mix(m:List UInt8)(n:Nat):hRun m (n+1)=mixF (hRun m n) ((m.drop (64*n)).take 64):=by
 rw[hRun,mixF,wSch_cut]
theorem hRun_front(p q:List UInt8):∀n,64*n≤p.length→hRun (p++q) n=hRun p n
 |0,_=>rfl
 |n+1,h=>by
  rw[hRun_mix,hRun_mix,hRun_front p q n (by omega)]
  congr 1
  rw[List.drop_append_of_le_length (by omega),q166 (by rw[q120];omega)]
theorem hRun_block(p x:List UInt8)(n:Nat)(a:p.length=64*n)(b:x.length=64)(q:List UInt8):hRun (p++x++q) (n+1)=mixF (hRun p n) x:=by
 rw[hRun_mix,q109,hRun_front p (x++q) n (by omega),List.drop_append_of_le_length (by omega),←a,List.drop_length,q115,q166 (by omega),q108 (by omega)]
theorem ofNat_mod(n:Nat):UInt8.ofNat (n%256)=UInt8.ofNat n:=by
 apply UInt8.toNat_inj.1
 rw[UInt8.toNat_ofNat',UInt8.toNat_ofNat']
 omega
def be4(x:W32):List UInt8:=[UInt8.ofNat (x.toNat / 16777216),UInt8.ofNat (x.toNat / 65536),UInt8.ofNat (x.toNat / 256),UInt8.ofNat x.toNat]
theorem put4_at(a b:List UInt8)(g h e c:UInt8)(x:W32):put4 (a++g::h::e::c::b) a.length x=a++be4 x++b:=by
 unfold put4 be4
 rw[q161 _ _ (by omega),q161 _ _ (by omega),q161 _ _ (by omega),q161 _ _ (by omega)]
 have i:a.length+1 - a.length=1:=by omega
 have d:a.length+2 - a.length=2:=by omega
 have f:a.length+3 - a.length=3:=by omega
 rw[Nat.sub_self,i,d,f]
 simp
theorem be4_len(n:Nat)(h:n≤1099511627776):be4 (BitVec.ofNat 32 (n / 536870912))++be4 (BitVec.ofNat 32 (8*n))=beB 8 (8*n):=by
 have c:(BitVec.ofNat 32 (n / 536870912)).toNat=n / 536870912:=by rw[BitVec.toNat_ofNat];omega
 have d:(BitVec.ofNat 32 (8*n)).toNat=8*n%4294967296:=by rw[BitVec.toNat_ofNat]
 have g:∀a b:Nat,a%256=b%256→UInt8.ofNat a=UInt8.ofNat b:=fun a b h=>by rw[←ofNat_mod a,←ofNat_mod b,h]
 simp only[be4,beB,c,d,List.cons_append,q115,Nat.reducePow,List.cons.injEq,and_true]
 refine⟨g _ _ ?_,g _ _ ?_,g _ _ ?_,g _ _ ?_,g _ _ ?_,g _ _ ?_,g _ _ ?_,g _ _ ?_⟩<;>omega
def lastB(l:List UInt8)(f:Nat):List UInt8:=l.take f++128::List.replicate (63 - f) 0
theorem lastB_length {l:List UInt8} {f:Nat}(a:f≤l.length)(b:f<64):(lastB l f).length=64:=by
 simp[lastB]
 omega
theorem rep8:List.replicate 8 (0:UInt8)=[0,0,0,0,0,0,0,0]:=rfl
theorem put_len(a:List UInt8)(n:Nat)(b:a.length=56)(h:n≤1099511627776):
  put4 (put4 (a++List.replicate 8 0) 56 (BitVec.ofNat 32 (n / 536870912))) 60 (BitVec.ofNat 32 (8*n))=a++beB 8 (8*n):=by
 have c:=put4_at a [0,0,0,0] 0 0 0 0 (BitVec.ofNat 32 (n / 536870912))
 rw[b]at c
 rw[rep8,c]
 have d:=put4_at (a++be4 (BitVec.ofNat 32 (n / 536870912))) [] 0 0 0 0 (BitVec.ofNat 32 (8*n))
 have e:(a++be4 (BitVec.ofNat 32 (n / 536870912))).length=60:=by simp[be4,b]
 rw[e]at d
 rw[d,q129,q109,be4_len n h]
theorem close_one(p l:List UInt8)(n f:Nat)(j:p.length=64*n+f)(k:f<56)(m:l.length=64)(b:l.take f=p.drop (64*n))(a:p.length≤1099511627776):
  hRun (padded p) ((p.length+72) / 64)=mixF (hRun p n) (put4 (put4 (lastB l f) 56 (BitVec.ofNat 32 (p.length / 536870912))) 60 (BitVec.ofNat 32 (8*p.length))):=by
 have g:lastB l f=(l.take f++128::List.replicate (55 - f) 0)++List.replicate 8 0:=by
  unfold lastB
  rw[show 63 - f=(55 - f)+8 from by omega,←List.replicate_append_replicate]
  simp
 rw[g,put_len _ _ (by simp;omega) a,b]
 have c:(p.length+72) / 64=n+1:=by omega
 have e:padN p.length=55 - f:=by unfold padN;omega
 have d:padded p=p.take (64*n)++(p.drop (64*n)++128::List.replicate (55 - f) 0++beB 8 (8*p.length))++[]:=by
  unfold padded
  rw[e]
  simp only[q109,q129,List.cons_append,q115]
  rw[←q109,q130]
 have i:hRun p n=hRun (p.take (64*n)) n:=by
  have h:=hRun_front (p.take (64*n)) (p.drop (64*n)) n (by simp;omega)
  rwa [q130]at h
 rw[c,d,i,hRun_block _ _ n (by simp;omega) (by simp[zdz];omega)]
theorem close_two(p l:List UInt8)(n f:Nat)(q:p.length=64*n+f)(r:56≤f)(c:f<64)(s:l.length=64)(e:l.take f=p.drop (64*n))(d:p.length≤1099511627776):
  hRun (padded p) ((p.length+72) / 64)=mixF (mixF (hRun p n) (lastB l f)) (put4 (put4 (List.replicate 64 0) 56 (BitVec.ofNat 32 (p.length / 536870912))) 60 (BitVec.ofNat 32 (8*p.length))):=by
 have k:List.replicate 64 (0:UInt8)=List.replicate 56 0++List.replicate 8 0:=rfl
 rw[k,put_len _ _ (by simp) d]
 have g:(p.length+72) / 64=n+1+1:=by omega
 have j:padN p.length=(63 - f)+56:=by unfold padN;omega
 have i:padded p=(p.take (64*n)++lastB l f)++(List.replicate 56 0++beB 8 (8*p.length))++[]:=by
  unfold padded lastB
  rw[j,e,←List.replicate_append_replicate]
  simp only[q109,q129,List.cons_append,q115]
  exact(congrArg (·++128::(List.replicate (63 - f) 0++(List.replicate 56 0++beB 8 (8*p.length)))) (q130 (64*n) p)).symm.trans (q109 _ _ _)
 have m:hRun p n=hRun (p.take (64*n)) n:=by
  have h:=hRun_front (p.take (64*n)) (p.drop (64*n)) n (by simp;omega)
  rwa [q130]at h
 have b:=lastB_length (l:=l) (f:=f) (by omega) c
 have a:=hRun_block (p.take (64*n)) (lastB l f) n (by simp;omega) b []
 rw[q129]at a
 rw[g,i,m,hRun_block _ _ (n+1) (by rw[q105,b];simp;omega) (by simp[zdz]),a]
def outK(h:List W32):Nat→List UInt8
 |0=>List.replicate 32 0
 |k+1=>put4 (outK h k) (4*k) (h.getD k 0#32)
theorem outK_length(h:List W32):∀k,(outK h k).length=32
 |0=>by simp[outK]
 |k+1=>by rw[outK,zcs,outK_length h k]
theorem outK_full:∀(h:List W32),h.length=8→outK h 8=outB h
 |[a,b,c,d,e,f,g,i],_=>by
  simp only[outK,put4,outB,List.range,List.range.loop,q139,q135,ofNat_mod,List.replicate,List.getD_cons_zero,List.getD_cons_succ,q150,q152,Nat.reduceMul,Nat.reduceAdd,Nat.reduceDiv,Nat.reduceMod,Nat.reduceSub,Nat.reducePow,Nat.div_one]
section
section
variable {P:Program} {w:World}
theorem zeroCells_one(x:Value)(n:Nat):(Builtin.zeroCells #[x] n).toList=List.replicate n x:=by
 unfold Builtin.zeroCells
 rw[Array.toList_map]
 apply q168
 ·simp
 intro i h1 h2
 simp[Nat.mod_one]
theorem run_clear_bytes {t e ty:TypeId}(ht:P.underlying t=some (.slice e))(i:∀w,(zeroValue e).run P w=.ok (.int .u8 0) w)(c o n k:Nat)(d:List Value)(h:TypeId)(a:Blk w c d h)(l:o+n≤d.length):
  (Builtin.clear_ #[t] ty #[.slice (some ⟨c,o,none⟩) n k]).run P w=.ok (.tuple #[]) (w.setCells c o (List.replicate n (.int .u8 0))):=by
 cases n with
 |zero=>simp[Builtin.clear_,run_underlying ht,World.setCells]
 |succ n=>
  have b:=run_storeCells_cells (P:=P) c o (List.replicate (n+1) (.int .u8 0)) 0 w (fun j f=>by
   rw[a.cell,List.getElem?_eq_getElem (by rw[q112]at f;omega)]
   rfl) (fun j _=>a.free _) (fun v g=>by rw[List.eq_of_mem_replicate g];rfl)
  rw[q149]at b
  simp[Builtin.clear_,run_underlying ht,i,Value.cells,zeroCells_one,b]
end
theorem laid_append:∀(c a b:List Value),c.length=b.length→laid (a++b) a.length c=a++c
 |[],a,[],_=>rfl
 |v::r,a,x::b,h=>by
  rw[laid,q161 _ _ (q101 _),Nat.sub_self,q150]
  have d:=laid_append r (a++[v]) b (by simpa using h)
  simpa using d
end
theorem index_words {T e:TypeId} {n:Nat}(c:Tryz.prog.underlying T=some (.array n e))(a:∀w,(sizeOf e).run Tryz.prog w=.ok 1 w)(b:∀w,(isAgg e).run Tryz.prog w=.ok false w)(h:List W32)(i:h.length=n)(k:Nat)(g:k<n)(w:World):
  (Instr.index T (.agg (ints .u32 (ws h)).toArray) (.int .i64 (k:Int))).run Tryz.prog w=.ok (.int .u32 (wi (h.getD k 0#32))) w:=by
 have d:(ints .u32 (ws h))[k]? =some (.int .u32 (wi (h.getD k 0#32))):=by rw[zas (by rw[zaw,i];exact g),zea]
 have f:0≤(k:Int)∧(k:Int)<(n:Int):=by omega
 unfold Instr.index
 simp only[asIntOf,Sem.run_bind,Sem.run_pure,Result.andThen_ok,run_underlying c,f,a,part,b]
 rw[if_pos ⟨trivial,trivial⟩]
 simp only[Sem.run_bind,a,b,Result.andThen_ok,Int.toNat_natCast,q148,List.getElem?_toArray,d,Bool.false_eq_true,if_false,Sem.run_pure]
theorem cut_arr2 {t:TypeId} {n:Nat} {e:TypeId}(ht:Tryz.prog.underlying t=some (.array n e))(h:∀w,(sizeOf e).run Tryz.prog w=.ok 1 w)(w:World)(A p:Nat)(f:p≤n):
  ∃o,o+(n - p)≤n∧(p<n→o=p)∧(Instr.sliceAt t (.pointer (some ⟨A,0,none⟩)) (some (.int .i64 (p:Int))) none none).run Tryz.prog w=.ok (.slice (some ⟨A,o,none⟩) (n - p) (n - p)) w:=by
 have b:Tryz.prog.arrayLen t=n:=by unfold Program.arrayLen;rw[ht]
 have c:Tryz.prog.elem t=e:=by unfold Program.elem;rw[ht]
 have a:=run_sliceAt_array_l w t ⟨A,0,none⟩ (by rw[b,c];exact ht) .i64 (p:Int) (by omega) (by rw[b];omega)
 rw[c,h,b]at a
 by_cases d:n=p
 ·refine⟨0,by omega,by omega,?_⟩
  rw[a]
  simp[slicedAt,d]
 refine⟨p,by omega,fun _=>rfl,?_⟩
 rw[a]
 simp[slicedAt,Addr.add,d]
 exact fun h=>h.symm
theorem laid_last(l:List UInt8)(f o:Nat)(i:l.length=64)(j:f<64)(c:f+1<64→o=f+1):
  laid ((l.map bval).set f (.int .u8 128)) o (List.replicate (63 - f) (.int .u8 0))=(lastB l f).map bval:=by
 rw[show 63 - f=64 - (f+1)from by omega]
 have d:(Value.int .u8 128)=bval 128:=rfl
 have g:l.set f 128=l.take f++[128]++l.drop (f+1):=by
  rw[List.set_eq_take_append_cons_drop,if_pos (by omega)]
  simp
 have e:(List.replicate (64 - (f+1)) (Value.int .u8 0))=(List.replicate (64 - (f+1)) (0:UInt8)).map bval:=by rw[List.map_replicate];rfl
 rw[d,←q141,g,e]
 by_cases h:f+1<64
 ·rw[c h,q110]
  have a:f+1=((l.take f++[128]).map bval).length:=by simp;omega
  have b:=laid_append ((List.replicate (64 - (f+1)) (0:UInt8)).map bval) ((l.take f++[128]).map bval) ((l.drop (f+1)).map bval) (by simp;omega)
  rw[←a]at b
  rw[b,←q110]
  unfold lastB
  rw[show 64 - (f+1)=63 - f from by omega]
  simp
 have a:f=63:=by omega
 subst a
 unfold lastB
 simp[laid,i]
theorem splice_map(l c:List UInt8)(f:Nat):splice (l.map bval) f (c.map bval)=(l.take f++c++l.drop (f+c.length)).map bval:=by
 unfold splice
 simp
theorem num_one:(Tryz.prog.info? 5).map (·.size)=some 1:=by kernel_rfl
def lenV:Value→Nat
 |.slice _ n _=>n
 |_=>0
theorem front_take(a:List UInt8)(n:Nat):∃c:List UInt8,c.length=Nat.min a.length n∧a=c++a.drop c.length∧c=a.take n:=by
 refine⟨a.take n,by rw[q107,Nat.min_comm],?_,rfl⟩
 rcases Nat.le_total n a.length with h|h
 ·rw[q107,q140 h,q130]
 rw[q108 h,List.drop_length,q129]
def But(M Bo:Nat)(w w':World):Prop:=∀k,k<Bo→k≠M→w'.heap[k]? =w.heap[k]?
theorem But.trans {M d:Nat} {a b c:World}(h:But M d a b)(g:But M d b c):But M d a c:=fun k f e=>(g k f e).trans (h k f e)
theorem But.set {M d:Nat} {a b:World}(h:But M d a b) {p:Addr}(f:p.block=M)(v:Value):But M d a (b.setCell p v):=fun k e c=>(heap_setCell_other b p k v (by rw[f];exact c)).trans (h k e c)
theorem But.drew {M c:Nat} {a b:World}(h:But M c a b):But M c a b.drew:=h
theorem But.of_below {M c:Nat} {a b:World}(h:Below c a b):But M c a b:=fun k d _=>h.block k d
theorem rowB_tail {w:World} {v:Value} {l:List UInt8} {e:List (List UInt8)}(h:RowB w v (l::e)):
  ∃(b off f:Nat) (x d:Value),v=.slice (some ⟨b,off,none⟩) (e.length+1) f∧f≤maxLen∧b<w.heap.size∧w.cell? ⟨b,off,none⟩=some x∧Row1 w x (l.map bval)∧RowB w d e∧
   ∀j,(Instr.sliceAt 55 v (some (.int .i64 1)) none none).run Tryz.prog j=.ok d j:=by
 obtain⟨c,m,g,n⟩:=h
 match c,g with
 |x::c,g=>
  obtain⟨d,q,r⟩:=row_cut q169 Tryz.sizeOf24 m 1 (by simp)
  obtain⟨a,f,rfl,h1,h2,B,A⟩:=m
  obtain⟨b,off,rfl,s,u⟩:=A (by simp)
  have p:c.length=e.length:=by simpa using g
  refine⟨b,off,f,x,d,by rw[q106,p],h2,s,by simpa using u 0 (by simp),n 0 x l rfl rfl,⟨c,q,p,fun i y k z t=>n (i+1) y k (by simpa using z) (by simpa using t)⟩,r⟩
theorem rowB_form {w:World} {v:Value} {c:List (List UInt8)}(h:RowB w v c):∃a b,v=.slice a c.length b∧b≤maxLen∧c.length≤b:=by
 obtain⟨f,e,d,g⟩:=h
 obtain⟨a,b,rfl,h1,h2,_⟩:=e
 exact⟨a,b,by rw[d],h2,by omega⟩
theorem row_slice {w:World} {v:Value} {l:List Value}(h:Row1 w v l):∃a n b,v=.slice a n b:=by
 obtain⟨a,b,rfl,_⟩:=h
 exact⟨_,_,_,rfl⟩
def behindAt(w:World)(M:Nat):Nat:=((w.cell? ⟨M,1,none⟩).map lenV).getD 0
theorem cut_row(w:World)(a p K C:Nat)(d:p<K)(e:K≤C):(Instr.sliceAt 24 (.slice (some ⟨a,0,none⟩) K C) (some (.int .i64 (p:Int))) none none).run Tryz.prog w=.ok (.slice (some ⟨a,p,none⟩) (K - p) (C - p)) w:=by
 have b:Tryz.prog.elem 24=5:=by unfold Program.elem;rw[q104]
 have c:Tryz.prog.underlying 24=some (.slice (Tryz.prog.elem 24)):=by rw[b];exact q104
 rw[run_sliceAt_slice w 24 _ _ _ _ c,run_slice_l (ht:=c) (kl:=.i64) (l:=(p:Int)) (h0:=by omega) (h1:=by omega),b,q111]
 simp[sliced,WideShapes.add_plain,show ¬C=p by omega]
theorem fill_next {r c a:List UInt8} {b:List (List UInt8)} {c2:List UInt8} {K:Nat}(h:r=c++([]++(a::b).flatten))(e:c.length≤K)(h2:c2=a.take (K - c.length)):
  r=(c++c2)++(a.drop c2.length++b.flatten)∧(c++c2).length≤K∧((c++c2).length<K→a.drop c2.length=[]):=by
 refine⟨?_,?_,?_⟩
 ·rw[h,q115,List.flatten_cons,q109]
  congr 1
  rw[←q109]
  congr 1
  rw[h2]
  rcases Nat.le_total (K - c.length) a.length with h|h
  ·rw[q107,q140 h,q130]
  rw[q108 h,List.drop_length,q129]
 ·rw[q105,h2,q107];omega
 intro d
 rw[q105,h2,q107]at d
 refine q174 ?_
 rw[h2,q107]
 omega
theorem fill_row(c c2 l:List UInt8):((c++l.drop c.length).take c.length++c2++(c++l.drop c.length).drop (c.length+c2.length))=(c++c2)++l.drop (c++c2).length:=by
 rw[q166 (q101 _),q133,q105]
 congr 1
 rw[List.drop_append,q174 (by omega),q115,q162]
 congr 1
 omega
theorem hRun_next(m x:List UInt8)(n:Nat)(a:x=(m.drop (64*n)).take 64):mixF (hRun m n) x=hRun m (n+1):=by rw[hRun_mix,a]
theorem last_top {c l d:List UInt8} {n:Nat}(h:c=d.take 64)(a:c.length=n)(b:n<64):(c++l.drop c.length).take n=d:=by
 have e:d.length=n:=by
  rw[h,q107]at a
  omega
 rw[←a,q166 (q101 _),q133,h,q108 (by omega)]
theorem filled_length {c l d:List UInt8}(h:c=d.take 64)(a:l.length=64):(c++l.drop c.length).length=64:=by
 have:c.length≤64:=by rw[h,q107];omega
 simp
 omega
theorem mrng_any(n a b:Int)(r:Bool)(w:World)(c:decide (a≤n∧n≤b)=r):Calls Tryz.prog 57 #[.int .i64 n,.int .i64 a,.int .i64 b] w fun e f=>e=.returned (.bool r)∧w=f:=by
 by_cases h1:a≤n
 ·by_cases h2:n≤b
  ·have d:Hid (true=r):=jh (by rw[←c];exact(decide_eq_true ⟨h1,h2⟩).symm)
   clear c
   go_enter Tryz.func57,Tryz.ntmps57
   go_wp2_with fail
   go_ret
   exact⟨by rw[←d.o];rfl,rfl⟩
  have d:Hid (false=r):=jh (by rw[←c];exact(decide_eq_false (fun h=>h2 h.2)).symm)
  clear c
  go_enter Tryz.func57,Tryz.ntmps57
  go_wp2_with fail
  go_ret
  exact⟨by rw[←d.o];rfl,rfl⟩
 have d:Hid (false=r):=jh (by rw[←c];exact(decide_eq_false (fun h=>h1 h.1)).symm)
 clear c
 go_enter Tryz.func57,Tryz.ntmps57
 go_wp2_with fail
 go_ret
 exact⟨by rw[←d.o];rfl,rfl⟩
theorem small_rng(n:Int):decide ((0:Int)≤n∧n≤2147483647)=smallB n:=by
 unfold smallB
 by_cases h1:0≤n<;>by_cases h2:n≤2147483647<;>simp[h1,h2]
theorem mval_any(m:Man)(wv:Value)(w:World)(a:m.Arr)(l:Row1 w wv (m.wr.map bval)):
  Calls Tryz.prog 26 #[.agg (manC m wv).toArray] w fun e q=>e=.returned (.bool m.ok)∧Below w.heap.size w q:=by
 obtain⟨ad,cp,k,_⟩:=id l
 rw[q100]at k
 subst k
 obtain⟨r,d⟩:=jq2 a (And.intro (Blk.made w (manC m (.slice ad m.wr.length cp)) 30) (Ext.alloc w (.cells (manC m (.slice ad m.wr.length cp)).toArray 30)))
 go_enter Tryz.func26,Tryz.ntmps26
 go_upto_region 1 with(fail)
 obtain⟨h0,j⟩:=d.o
 change Code.wp _ _ _ _ (w.alloc (.cells (manC m (.slice ad m.wr.length cp)).toArray 30))
 generalize w.alloc (.cells (manC m (.slice ad m.wr.length cp)).toArray 30)=c at*
 obtain⟨M,n⟩:=nxq w.heap.size
 rw[←n]at h0⊢
 have t:=jh h0
 have f:Hid (Ext w c):=jh j
 have v:Hid (w.heap.size=M):=jh (by omega)
 clear d j h0 n
 obtain⟨z,y,_,B,u,_⟩:=zed t.o r.o
 clear a l
 have i:=jh (@Man.ok_no m)
 cases h1:smallB m.ver with
 |false=>
  have b:=jh (i.o (fun h=>by rw[h1]at h;cases h.1))
  go_wp2_with fail
  refine(mrng_any m.ver 0 2147483647 false c (by rw[small_rng,h1])).mono ?_
  rintro e g ⟨rfl,rfl⟩
  go_wp2_with fail
  go_ret
  exact⟨by rw[b.o];rfl,f.o⟩
 |true=>
 have s:=jh h1
 go_wp2_with fail
 refine(mrng_any m.ver 0 2147483647 true c (by rw[small_rng,h1])).mono ?_
 rintro e g ⟨rfl,rfl⟩
 clear h1
 by_cases h2:1≤m.blk∧m.blk≤32
 ·have d:=jh h2
  go_wp2_with fail
  refine(mrng_any m.blk 1 32 true c (decide_eq_true h2)).mono ?_
  rintro e g ⟨rfl,rfl⟩
  by_cases p:m.wr.length=80
  ·cases h5:smallB m.cid with
   |false=>
    have b:=jh (i.o (fun h=>by rw[h5]at h;cases h.2.2.2.2))
    go_wp2_with fail
    refine(mrng_any m.cid 0 2147483647 false c (by rw[small_rng,h5])).mono ?_
    rintro e g ⟨rfl,rfl⟩
    go_wp2_with fail
    go_ret
    exact⟨by rw[b.o];rfl,f.o⟩
   |true=>
    have b:=jh (Man.ok_of s.o d.o.1 d.o.2 p h5)
    go_wp2_with fail
    refine(mrng_any m.cid 0 2147483647 true c (by rw[small_rng,h5])).mono ?_
    rintro e g ⟨rfl,rfl⟩
    go_wp2_with fail
    go_ret
    exact⟨by rw[b.o];rfl,f.o⟩
  have b:=jh (i.o (fun h=>p h.2.2.2.1))
  have A:((m.wr.length:Int)==80)=false:=by simp;omega
  have x:decide ((m.wr.length:Int)=80)=false:=decide_eq_false (by omega)
  go_wp2_with fail
  go_ret
  exact⟨by rw[b.o];rfl,f.o⟩
 have b:=jh (i.o (fun h=>h2 ⟨h.2.1,h.2.2.1⟩))
 go_wp2_with fail
 refine(mrng_any m.blk 1 32 false c (decide_eq_false h2)).mono ?_
 rintro e g ⟨rfl,rfl⟩
 go_wp2_with fail
 go_ret
 exact⟨by rw[b.o];rfl,f.o⟩
section
variable {F:Nat→Prop}
theorem zdr {P:Program} {a:Act} {w:World} {Q:Exit→Act→World→Prop} {c rest:Code}(l:Nat)(d:findLabel c l=some rest)(h:c.wp P (Exit.jump l (fun a w=>rest.wp P (Exit.noGoto Q) a w) Q) a w):(Code.scope c).wp P Q a w:=
 wp_scope_jumps l _ (fun _ _=>0) d h (fun a w b=>Code.wp_mono (fun e a w h=>by cases e<;>first|exact h|exact absurd h (by simp[Exit.noGoto])) b)
theorem or_byteU(m a:Nat)(f:m<72057594037927936)(c:a<256):bits .or .u64 (IntKind.u64.wrap ((m:Int)*256)) (IntKind.u64.wrap (a:Int))=((m*256+a:Nat):Int):=by
 have e:(BitVec.ofInt 64 (IntKind.u64.wrap ((m:Int)*256))).toNat=m*256:=by
  rw[BitVec.toNat_ofInt,IntKind.wrap_u64]
  omega
 have d:(BitVec.ofInt 64 (IntKind.u64.wrap (a:Int))).toNat=a:=by
  rw[BitVec.toNat_ofInt,IntKind.wrap_u64]
  omega
 show IntKind.u64.wrap ((BitVec.ofInt 64 (IntKind.u64.wrap ((m:Int)*256))|||BitVec.ofInt 64 (IntKind.u64.wrap (a:Int))).toNat:Nat)=_
 rw[BitVec.toNat_or,e,d]
 have:=Nat.two_pow_add_eq_or_of_lt (i:=8) (b:=a) (by simpa using c) m
 rw[q134 m 256]
 have h2:256*m|||a=256*m+a:=this.symm
 rw[h2,IntKind.wrap_u64]
 omega
theorem number_any {v:Value} {l:List UInt8}(w:World)(A:Row1 w v (l.map bval))(c:8≤l.length):
  Calls Tryz.prog 62 #[v] w fun e n=>e=.returned (.int .i64 (decI (l.take 8)))∧w=n:=by
 obtain⟨a,t,rfl,h1,h2,z,j⟩:=A
 rw[q100]at h1⊢
 unfold maxLen at h2
 obtain⟨b,off,rfl,I,f⟩:=j (by intro e;have:=List.map_eq_nil_iff.1 e;subst this;simp at c)
 have g:∀k,k<8→w.cell? ⟨b,off+k,none⟩=some (.int .u8 (l.getD k 0).toNat):=by
  intro k B
  rw[f k (by simp;omega),List.getElem?_map,List.getElem?_eq_getElem (by omega)]
  simp[List.getD,show k<l.length from by omega,bval]
 obtain⟨p,q⟩:=jq2 g c
 have F:8≤t:=by omega
 clear z j f g c
 go_enter Tryz.func62,Tryz.ntmps62
 go_wp2_with fail
 go_loop [3,9] (fun s i=>∃k:Nat,k≤8∧i=.int .i64 k∧s=.int .u64 (accN (l.take k))) (fun _ i=>8 - (intOf i).toNat)
 case atStart=>exact⟨0,by omega,rfl,by rfl⟩
 case round=>
  obtain⟨k,B,rfl,rfl⟩:=hrel
  by_cases x:k<8
  ·have c:=q.o
   have c1:=p.o k x
   have E:(0:Int)≤(k:Int):=Int.natCast_nonneg _
   have H:(k:Int)<8:=by omega
   have C:=accN_lt (l.take k)
   have r:256^(l.take k).length≤256^7:=Nat.pow_le_pow_right (by omega) (by simp;omega)
   have u:(256:Nat)^7=72057594037927936:=by decide
   have d:=(l.getD k 0).toNat_lt
   have h:bits .or .u64 (IntKind.u64.wrap ((accN (l.take k):Int)*256)) (IntKind.u64.wrap ((l.getD k 0).toNat:Int))=(accN (l.take (k+1)):Int):=by
    rw[or_byteU _ _ (by omega) (by simpa using d),q143 (by omega),accN_snoc]
    simp[List.getD,show k<l.length from by omega]
   have y:=jh h
   clear C r u d h
   generalize (l.getD k 0).toNat=G at*
   generalize accN (l.take k)=m at*
   go_wp2_with fail
   go_round
   case rel=>exact⟨k+1,by omega,by go_num,by rw[y.o]⟩
   case measure=>simp[intOf];omega
  have D:k=8:=by omega
  subst D
  go_wp2_with fail
  go_ret
  exact⟨by unfold decI;rw[pck_i64wrap];rfl,rfl⟩
def PCurF(F:Nat→Prop)(w:World)(B c:Nat)(l:List UInt8)(p:Nat)(bad:Bool):Prop:=
 ∃v,Blk w c [v,.bool bad] 99∧c<B∧B≤w.heap.size∧p≤l.length∧l.length≤1099511627776∧(∀k,v.ownBlock=some k→(k<B∧F k)∧k≠c)∧
  (bad=true→v=.slice none 0 0)∧(bad=false→Row1 w v ((l.drop p).map bval))
theorem PCurF.keep {w a:World} {B c:Nat} {l:List UInt8} {p:Nat} {bad:Bool}(h:PCurF F w B c l p bad)(f:∀k,k<B→a.heap[k]? =w.heap[k]?)(b:w.heap.size≤a.heap.size):PCurF F a B c l p bad:=by
 obtain⟨v,h1,h2,i,q,n,d,g,j⟩:=h
 exact⟨v,h1.same (f c h2),h2,q119 i b,q,n,d,g,fun e=>(j e).same b fun p m _=>World.cell?_of_block (f p.block (d p.block m).1.1)⟩
theorem Row1.setFar {w:World} {v:Value} {a:List Value} {c i:Nat} {u:Value}(h:Row1 w v a)(b:v.ownBlock≠some c):Row1 (w.setCell ⟨c,i,none⟩ u) v a:=h.store b u
theorem PCurF.open(w:World) {B c:Nat} {l:List UInt8} {p:Nat} {bad:Bool}(h:PCurF F w B c l p bad):∃a len b,Blk w c [.slice a len b,.bool bad] 99∧c<B∧B≤w.heap.size∧p≤l.length∧l.length≤1099511627776∧(∀k,(Value.slice a len b).ownBlock=some k→(k<B∧F k)∧k≠c)∧
  (bad=true→a=none∧len=0∧b=0)∧(bad=false→Row1 w (.slice a len b) ((l.drop p).map bval)∧len=l.length - p∧len≤b∧b≤maxLen∧(a=none→b=0)):=by
 obtain⟨v,h1,h2,d,j,g,i,m,r⟩:=h
 cases bad with
 |true=>
  have:=m rfl
  subst this
  exact⟨none,0,0,h1,h2,d,j,g,i,(fun _=>⟨rfl,rfl,rfl⟩),(fun e=>by cases e)⟩
 |false=>
  have f:=r rfl
  obtain⟨a,b,rfl,q,n,s,t⟩:=id f
  exact⟨a,_,b,h1,h2,d,j,g,i,(fun e=>by cases e),(fun _=>⟨f,by simp,q,n,s⟩)⟩
theorem PCurF.spoilt {w a:World} {B c:Nat} {l:List UInt8} {p:Nat} {bad:Bool}(h:PCurF F w B c l p bad)(b:Blk a c [.slice none 0 0,.bool true] 99)(f:w.heap.size≤a.heap.size):PCurF F a B c l p true:=by
 obtain⟨v,h1,h2,d,j,g,q,m,n⟩:=h
 exact⟨_,b,h2,q119 d f,j,g,(fun k i=>by simp[Value.ownBlock]at i),(fun _=>rfl),(fun e=>by cases e)⟩
theorem Row1.rest {w:World} {ad:Addr} {len b:Nat} {a:List Value}(h:Row1 w (.slice (some ad) len b) a)(n:Nat)(d:n≤a.length):Row1 w (.slice (some (ad.add n)) (len - n) (b - n)) (a.drop n):=by
 obtain⟨a',f,e,h1,h2,c,g⟩:=id h
 cases e
 have:=h.sliced n (a.length - n) (by omega)
 rwa [q108 (by simp)]at this
theorem own_cut(ad:Addr)(n len a:Nat):(Value.slice (some (ad.add n)) (len - n) (a - n)).ownBlock=(Value.slice (some ad) len a).ownBlock:=by
 simp only[Value.ownBlock,Addr.add]
 split<;>rfl
theorem PCurF.moved {w a:World} {B c:Nat} {l:List UInt8} {p n:Nat} {v:Value}(h:PCurF F w B c l p false)(d:Blk a c [v,.bool false] 99)(g:w.heap.size≤a.heap.size)(b:∀k,v.ownBlock=some k→(k<B∧F k)∧k≠c)(i:Row1 a v (((l.drop p).drop n).map bval))(m:p+n≤l.length):PCurF F a B c l (p+n) false:=by
 obtain⟨r,h1,h2,f,u,j,t,q,s⟩:=h
 refine⟨v,d,h2,q119 f g,m,j,b,(fun e=>by cases e),(fun _=>?_)⟩
 rwa [q162]at i
/-- read, of what there is not. -/
theorem pread_no(w:World)(B c:Nat)(l:List UInt8)(p:Nat)(bad:Bool)(n:Int)(h:PCurF F w B c l p bad)(hn:bad=true∨n<0∨(l.length:Int) - p<n):
  Calls Tryz.prog 61 #[.pointer (some ⟨c,0,none⟩),.int .i64 n,.bool false] w fun e w'=>e=.returned (.slice none 0 0)∧PCurF F w' B c l p true∧w.grownBy w' (some c):=by
 obtain⟨a,len,cap,g1,g2,g3,g4,g5,g6,g7,g8⟩:=h.open
 have c0:=g1.cell 0
 have c1:=g1.cell 1
 have f0:=g1.free 0
 have f1:=g1.free 1
 simp only[List.getElem?_cons_zero,List.getElem?_cons_succ]at c0 c1
 obtain⟨HP,HG⟩:=jq2 h g1
 cases bad with
 |true=>
  clear h g1 g6 g7 hn g8
  go_enter Tryz.func61,Tryz.ntmps61
  go_wp2_with fail
  refine zdr 0 (by rfl) ?_
  go_wp2_with fail
  go_step3
  refine⟨rfl,?_⟩
  go_wp2_with fail
  rw[Exit.noGoto_ret]
  go_ret
  exact⟨rfl,HP.o.spoilt ((HG.o.set 0 (.slice none 0 0)).set 1 (.bool true)) (by simp),zav (zav (zay w _) 0 _) 1 _⟩
 |false=>
  obtain⟨g9,g10,g11,g12,g13⟩:=g8 rfl
  unfold maxLen at g12
  have hlenI:(len:Int)=(l.length:Int) - p:=by omega
  by_cases hneg:n<0
  ·clear h g1 g6 g7 hn g8 g9 g10 g13 hlenI
   go_enter Tryz.func61,Tryz.ntmps61
   go_wp2_with fail
   refine zdr 0 (by rfl) ?_
   go_wp2_with fail
   go_step3
   refine⟨rfl,?_⟩
   go_wp2_with fail
   rw[Exit.noGoto_ret]
   go_ret
   exact⟨rfl,HP.o.spoilt ((HG.o.set 0 (.slice none 0 0)).set 1 (.bool true)) (by simp),zav (zav (zay w _) 0 _) 1 _⟩
  have h2:(len:Int)<n:=by
   rcases hn with h|h|h
   ·cases h
   ·exact absurd h hneg
   omega
  have hd:decide (n<0)=false:=decide_eq_false hneg
  clear h g1 g6 g7 hn g8 g9 g10 g13 hlenI hneg
  go_enter Tryz.func61,Tryz.ntmps61
  go_wp2_with fail
  refine zdr 0 (by rfl) ?_
  go_wp2_with fail
  go_step3
  refine⟨rfl,?_⟩
  go_wp2_with fail
  rw[Exit.noGoto_ret]
  go_ret
  exact⟨rfl,HP.o.spoilt ((HG.o.set 0 (.slice none 0 0)).set 1 (.bool true)) (by simp),zav (zav (zay w _) 0 _) 1 _⟩
/-- read, of what there is. -/
theorem pread_yes(w:World)(B c:Nat)(l:List UInt8)(p n:Nat)(h:PCurF F w B c l p false)(hn:p+n≤l.length):
  Calls Tryz.prog 61 #[.pointer (some ⟨c,0,none⟩),.int .i64 n,.bool false] w fun e w'=>∃v,e=.returned v∧Row1 w' v (((l.drop p).take n).map bval)∧(∀k,v.ownBlock=some k→(k<B∧F k)∧k≠c)∧PCurF F w' B c l (p+n) false∧w.grownBy w' (some c):=by
 obtain⟨a,len,cap,g1,g2,g3,g4,g5,g6,g7,g8⟩:=h.open
 have c0:=g1.cell 0
 have c1:=g1.cell 1
 have f0:=g1.free 0
 have f1:=g1.free 1
 simp only[List.getElem?_cons_zero,List.getElem?_cons_succ]at c0 c1
 obtain⟨HP,HG⟩:=jq2 h g1
 obtain⟨g9,g10,g11,g12,g13⟩:=g8 rfl
 unfold maxLen at g12
 have hnl:n≤len:=by omega
 have hnc:n≤cap:=by omega
 have hd:decide ((n:Int)<0)=false:=decide_eq_false (by omega)
 have hd2:decide ((len:Int)<(n:Int))=false:=decide_eq_false (by omega)
 have hn0:(0:Int)≤(n:Int):=Int.natCast_nonneg _
 have hml:n≤((l.drop p).map bval).length:=by simp;omega
 obtain⟨HOWN,HN⟩:=jq2 g6 hn
 have HNE:Hid ((Value.slice a len cap).ownBlock≠some c):=jh fun e=>(g6 c e).2 rfl
 have HHEAD:=jh (g9.head n hml)
 rw[←List.map_take]at HHEAD
 cases a with
 |none=>
  have hc0:cap=0:=g13 rfl
  have hl0:len=0:=by omega
  have hn00:n=0:=by omega
  subst hc0 hl0 hn00
  have HREST:Hid (Row1 w (.slice none 0 0) (((l.drop p).drop 0).map bval)):=jh g9
  clear h g1 g6 g7 hn g8 g9 g10 g13 hml
  go_enter Tryz.func61,Tryz.ntmps61
  go_wp2_with fail
  refine zdr 0 (by rfl) ?_
  go_wp2_with fail
  go_region
  go_wp2_with fail
  simp only[Exit.jump]
  go_ret
  refine⟨_,rfl,HHEAD.o.drew.setFar HNE.o,HOWN.o,HP.o.moved (n:=0) ((HG.o.drewN 1).set 0 (.slice none 0 0)) (by simp) HOWN.o (HREST.o.drew.setFar HNE.o) HN.o,zav (zbo (zay w _) 1) 0 _⟩
 |some ad=>
  by_cases hc:n=cap
  ·subst hc
   have hln:len=n:=by omega
   subst hln
   have HREST:Hid (Row1 w (.slice (some ad) 0 0) (((l.drop p).drop len).map bval)):=jh (by
    rw[List.drop_of_length_le (by simp;omega)]
    exact Row1.empty w ad 0 (q145 _))
   clear h g1 g6 g7 hn g8 g9 g10 g13 hml
   go_enter Tryz.func61,Tryz.ntmps61
   go_wp2_with fail
   refine zdr 0 (by rfl) ?_
   go_wp2_with fail
   go_region
   go_wp2_with fail
   simp only[Exit.jump]
   go_ret
   refine⟨_,rfl,HHEAD.o.drew.setFar HNE.o,HOWN.o,HP.o.moved (n:=len) ((HG.o.drewN 1).set 0 _) (by simp) HOWN.o (HREST.o.drew.setFar HNE.o) HN.o,zav (zbo (zay w _) 1) 0 _⟩
  have hcz:¬cap=n:=fun e=>hc e.symm
  have HREST:=jh (g9.rest n hml)
  rw[←List.map_drop]at HREST
  have HOWN2:Hid (∀k,(Value.slice (some (ad.add n)) (len - n) (cap - n)).ownBlock=some k→(k<B∧F k)∧k≠c):=jh (by rw[own_cut ad n len cap];exact g6)
  have HNE2:Hid ((Value.slice (some (ad.add n)) (len - n) (cap - n)).ownBlock≠some c):=jh (by rw[own_cut ad n len cap];exact HNE.o)
  clear h g1 g6 g7 hn g8 g9 g10 g13 hml
  go_enter Tryz.func61,Tryz.ntmps61
  go_wp2_with fail
  refine zdr 0 (by rfl) ?_
  go_wp2_with fail
  go_region
  go_wp2_with fail
  simp only[Exit.jump]
  go_ret
  refine⟨_,rfl,HHEAD.o.drew.setFar HNE.o,HOWN.o,HP.o.moved (n:=n) ((HG.o.drewN 1).set 0 _) (by simp) HOWN2.o (HREST.o.drew.setFar HNE2.o) HN.o,zav (zbo (zay w _) 1) 0 _⟩
end
section
variable {F:Nat→Prop}
theorem PCurF.lt {w:World} {B c:Nat} {l:List UInt8} {p:Nat} {bad:Bool}(h:PCurF F w B c l p bad):c<B∧B≤w.heap.size:=by
 obtain⟨v,h1,h2,a,_⟩:=h
 exact⟨h2,a⟩
theorem PCurF.grown {w a:World} {B c:Nat} {l:List UInt8} {p:Nat} {bad:Bool}(h:PCurF F w B c l p bad)(b:w.grownBy a none):PCurF F a B c l p bad:=
 h.keep (fun k d=>b.block k (q116 d h.lt.2) (by simp)) b.size
theorem pnewF(v:Value)(l:List UInt8)(w:World)(i:Row1 w v (l.map bval))(q:l.length≤1099511627776):
  Calls Tryz.prog 31 #[v] w fun e h=>∃B c,e=.returned (.pointer (some ⟨c,0,none⟩))∧PCurF (fun k=>w.heap.size≤k) h B c l 0 false∧w.heap.size≤c∧Below w.heap.size w h:=by
 obtain⟨x,u,m,p,s⟩:=info_parts Tryz.info5
 have t:=jh i
 have b:Hid ((l.map bval).length=l.length):=jh (by simp)
 clear i
 go_enter Tryz.func31,Tryz.ntmps31
 go_wp2_with (at_builtin;refine zad rfl _ _ 24 rfl w.heap.size 5 x (.int .u8 0) 1 q104 u m p s rfl _ 0 [] rfl (World.ownsRow_nil _ _ _ _) rfl t.o (zac _) (by rw[b.o];unfold maxLen;omega) (by rw[b.o];omega) (q101 _) ?_;intro A d f z;obtain⟨C,D,rfl,_,_,_,_⟩:=id (Row1.of_own f))
 go_ret
 have g:=jh z
 rw[q115,b.o]at f
 have a:=jh f
 have n:Below w.heap.size w d:=(Below.refl _ _).grown g.o (q101 _) (fun r y=>by cases y)
 refine⟨d.heap.size+1,d.heap.size,rfl,⟨_,Blk.made _ _ _,by omega,by simp,q145 _,q,?_,(fun e=>by cases e),(fun _=>?_)⟩,g.o.size,n.alloc g.o.size _⟩
 ·intro k j
  have h1:=(a.o.lt k j).1
  have h2:=(a.o.lt k j).2
  exact⟨⟨by omega,h1⟩,by omega⟩
 rw[List.drop_zero]
 exact(Row1.of_own a.o).alloc _
theorem PCurF.far {w b:World} {B c s:Nat} {l:List UInt8} {p:Nat} {bad:Bool}(h:PCurF F w B c l p bad)(a:w.grownBy b (some s))(r:s≠c)(m:¬F s):PCurF F b B c l p bad:=by
 obtain⟨v,h1,h2,g,t,n,d,f,i⟩:=h
 refine⟨v,h1.grown a (fun e=>r (Option.some.inj e)),h2,q119 g a.size,t,n,d,f,fun e=>(i e).grown a (fun k q j=>?_)⟩
 obtain rfl:s=k:=Option.some.inj q
 exact m (d _ j).1.2
theorem pint_no(w:World)(B c:Nat)(l:List UInt8)(p:Nat)(bad:Bool)(h:PCurF F w B c l p bad)(g:bad=true∨l.length<p+8):
  Calls Tryz.prog 33 #[.pointer (some ⟨c,0,none⟩)] w fun e d=>e=.returned (.int .i64 0)∧PCurF F d B c l p true∧w.grownBy d (some c):=by
 have k:=jh (pread_no w B c l p bad 8 h (g.elim Or.inl fun h=>Or.inr (Or.inr (by omega))))
 clear h g
 go_enter Tryz.func33,Tryz.ntmps33
 go_wp2_with fail
 refine k.o.mono ?_
 rintro e q ⟨rfl,b,i⟩
 obtain⟨a,len,n,f,_⟩:=b.open
 have c1:=f.cell 1
 simp only[List.getElem?_cons_zero,List.getElem?_cons_succ]at c1
 obtain⟨m,j⟩:=jq2 b i
 clear b i f
 go_wp2_with fail
 go_ret
 exact⟨rfl,m.o,j.o⟩
theorem pint_yes(w:World)(B c:Nat)(l:List UInt8)(p:Nat)(h:PCurF F w B c l p false)(j:p+8≤l.length):
  Calls Tryz.prog 33 #[.pointer (some ⟨c,0,none⟩)] w fun e b=>e=.returned (.int .i64 (decI ((l.drop p).take 8)))∧PCurF F b B c l (p+8) false∧w.grownBy b (some c):=by
 have n:=jh (pread_yes w B c l p 8 h j)
 have s:Hid (((l.drop p).take 8).length=8):=jh (by simp;omega)
 have ht:Hid (((l.drop p).take 8).take 8=(l.drop p).take 8):=jh (by rw[List.take_take];rfl)
 clear h j
 go_enter Tryz.func33,Tryz.ntmps33
 go_wp2_with fail
 refine n.o.mono ?_
 rintro e t ⟨v,rfl,i,_,d,k⟩
 obtain⟨a,len,u,g,_⟩:=d.open
 have c1:=g.cell 1
 simp only[List.getElem?_cons_zero,List.getElem?_cons_succ]at c1
 have f:=number_any t i (by rw[s.o];omega)
 rw[ht.o]at f
 obtain⟨m,q,r⟩:=jq3 f d k
 clear d k g i f
 go_wp2_with fail
 refine m.o.mono ?_
 rintro e b ⟨rfl,rfl⟩
 go_wp2_with fail
 go_ret
 exact⟨rfl,q.o,r.o⟩
theorem praw_no(w:World)(B c:Nat)(l:List UInt8)(p:Nat)(bad:Bool)(n:Int)(h:PCurF F w B c l p bad)(f:bad=true∨n<0∨(l.length:Int) - p<n):
  Calls Tryz.prog 32 #[.pointer (some ⟨c,0,none⟩),.int .i64 n] w fun e a=>∃v,e=.returned v∧a.ownsRow w.heap.size 5 1 v 0 []∧PCurF F a B c l p true∧w.grownBy a (some c):=by
 obtain⟨C,z,m,t,x⟩:=info_parts Tryz.info5
 have y:=jh (pread_no w B c l p bad n h f)
 clear h f
 go_enter Tryz.func32,Tryz.ntmps32
 go_wp2_with fail
 refine y.o.mono ?_
 rintro e A ⟨rfl,d,g⟩
 obtain⟨r,k⟩:=jq2 d g
 clear d g
 go_wp2_with (at_builtin;refine zad rfl _ _ 24 rfl w.heap.size 5 C (.int .u8 0) 1 q104 z m t x rfl _ 0 [] rfl (World.ownsRow_nil _ _ _ _) rfl (Row1.nil A) (fun u s=>by cases s) (by unfold maxLen;simp) (by simp) k.o.size ?_;intro D E i j)
 obtain⟨q,b⟩:=jq2 i j
 clear i j
 go_wp2_with fail
 go_ret
 exact⟨_,rfl,q.o,r.o.grown b.o,grownBy_trans k.o (zdu b.o)⟩
theorem praw_yes(w:World)(B c:Nat)(l:List UInt8)(p n:Nat)(h:PCurF F w B c l p false)(i:p+n≤l.length):
  Calls Tryz.prog 32 #[.pointer (some ⟨c,0,none⟩),.int .i64 n] w fun e a=>∃v,e=.returned v∧a.ownsRow w.heap.size 5 1 v n (((l.drop p).take n).map bval)∧PCurF F a B c l (p+n) false∧w.grownBy a (some c):=by
 obtain⟨E,C,r,u,x⟩:=info_parts Tryz.info5
 have D:=jh (pread_yes w B c l p n h i)
 have y:l.length≤1099511627776:=by obtain⟨v,_,_,_,_,z,_⟩:=h;exact z
 have b:Hid ((((l.drop p).take n).map bval).length=n):=jh (by simp;omega)
 have H:n≤1099511627776:=by omega
 clear h i y
 go_enter Tryz.func32,Tryz.ntmps32
 go_wp2_with fail
 refine D.o.mono ?_
 rintro e J ⟨v,rfl,k,_,g,j⟩
 obtain⟨A,t,q⟩:=jq3 k g j
 clear g j k
 go_wp2_with (at_builtin;refine zad rfl _ _ 24 rfl w.heap.size 5 E (.int .u8 0) 1 q104 C r u x rfl _ 0 [] rfl (World.ownsRow_nil _ _ _ _) rfl A.o (zac _) (by rw[b.o];unfold maxLen;omega) (by rw[b.o];omega) q.o.size ?_;intro G I d m)
 rw[q115,b.o,q117]at d
 obtain⟨s,f⟩:=jq2 d m
 clear d m
 go_wp2_with fail
 go_ret
 exact⟨_,rfl,s.o,t.o.grown f.o,grownBy_trans q.o (zdu f.o)⟩
theorem pend(w:World)(B c:Nat)(l:List UInt8)(p:Nat)(bad:Bool)(h:PCurF F w B c l p bad):
  Calls Tryz.prog 34 #[.pointer (some ⟨c,0,none⟩)] w fun e n=>e=.returned (.bool (!bad && decide (p=l.length)))∧∃k,n=w.drewN k:=by
 obtain⟨a,len,u,b,r,t,v,s,g,j,f⟩:=h.open
 have q:=b.cell 0
 have c1:=b.cell 1
 simp only[List.getElem?_cons_zero,List.getElem?_cons_succ]at q c1
 cases bad with
 |true=>
  clear h b g j f
  go_enter Tryz.func34,Tryz.ntmps34
  go_wp2_with fail
  go_ret
  exact⟨rfl,0,rfl⟩
 |false=>
  have m:=(f rfl).2.1
  by_cases d:p=l.length
  ·have h0:len=0:=by omega
   subst h0
   have i:Hid (decide (p=l.length)=true):=jh (decide_eq_true d)
   clear h b g j f d m
   go_enter Tryz.func34,Tryz.ntmps34
   go_wp2_with fail
   go_ret
   exact⟨by rw[i.o];rfl,0,rfl⟩
  have h0:((len:Int)==0)=false:=by simp;omega
  have i:Hid (decide (p=l.length)=false):=jh (decide_eq_false d)
  clear h b g j f d m
  go_enter Tryz.func34,Tryz.ntmps34
  go_wp2_with fail
  go_ret
  exact⟨by rw[i.o];rfl,0,rfl⟩
end
section
variable {F:Nat→Prop}
theorem pcur_raw {b:List UInt8}(w:World)(B c p n:Nat)(bad:Bool)(h:PCurF F w B c b p bad):
  Calls Tryz.prog 32 #[.pointer (some ⟨c,0,none⟩),.int .i64 (n:Int)] w fun e d=>∃v,e=.returned v∧d.ownsRow w.heap.size 5 1 v (rwL b p bad n).length ((rwL b p bad n).map bval)∧PCurF F d B c b (rwP b p bad n) (rwB b p bad n)∧w.grownBy d (some c):=by
 cases a:rwB b p bad n with
 |true=>
  have i:rwL b p bad n=[]:=by unfold rwL;rw[a];rfl
  have g:rwP b p bad n=p:=by unfold rwP;rw[a];rfl
  rw[i,g]
  unfold rwB at a
  rw[Bool.or_eq_true,decide_eq_true_iff]at a
  refine(praw_no w B c b p bad n h ?_).mono ?_
  ·rcases a with h|h
   ·exact Or.inl h
   exact Or.inr (Or.inr (by omega))
  rintro e d ⟨v,rfl,h1,h2,f⟩
  exact⟨v,rfl,h1,h2,f⟩
 |false=>
  have i:rwL b p bad n=(b.drop p).take n:=by unfold rwL;rw[a];rfl
  have g:rwP b p bad n=p+n:=by unfold rwP;rw[a];rfl
  unfold rwB at a
  rw[Bool.or_eq_false_iff,decide_eq_false_iff_not]at a
  obtain⟨rfl,a⟩:=a
  rw[i,g]
  refine(praw_yes w B c b p n h (by omega)).mono ?_
  rintro e d ⟨v,rfl,h1,h2,f⟩
  exact⟨v,rfl,by rw[show ((b.drop p).take n).length=n from by rw[q107,q120];omega];exact h1,h2,f⟩
theorem pcur_int {b:List UInt8}(w:World)(B c p:Nat)(bad:Bool)(h:PCurF F w B c b p bad):
  Calls Tryz.prog 33 #[.pointer (some ⟨c,0,none⟩)] w fun e g=>e=.returned (.int .i64 (rwI b p bad))∧PCurF F g B c b (rwP b p bad 8) (rwB b p bad 8)∧w.grownBy g (some c):=by
 cases a:rwB b p bad 8 with
 |true=>
  have d:rwI b p bad=0:=by unfold rwI;rw[a];rfl
  have f:rwP b p bad 8=p:=by unfold rwP;rw[a];rfl
  rw[d,f]
  unfold rwB at a
  rw[Bool.or_eq_true,decide_eq_true_iff]at a
  exact pint_no w B c b p bad h a
 |false=>
  have d:rwI b p bad=decI ((b.drop p).take 8):=by unfold rwI;rw[a];rfl
  have f:rwP b p bad 8=p+8:=by unfold rwP;rw[a];rfl
  unfold rwB at a
  rw[Bool.or_eq_false_iff,decide_eq_false_iff_not]at a
  obtain⟨rfl,a⟩:=a
  rw[d,f]
  exact pint_yes w B c b p h (by omega)
end
section
variable {F:Nat→Prop}
def PQ(F:Nat→Prop)(w:World)(B c:Nat)(b:List UInt8)(q:Nat):Prop:=∃p d,PCurF F w B c b p d∧Cur b q p d
theorem PQ.lt {w:World} {B c q:Nat} {b:List UInt8}(h:PQ F w B c b q):c<w.heap.size:=by
 obtain⟨p,d,h,_⟩:=h
 have:=h.lt
 omega
theorem PQ.far {w a:World} {B c s q:Nat} {b:List UInt8}(h:PQ F w B c b q)(e:w.grownBy a (some s))(f:s≠c)(g:¬F s):PQ F a B c b q:=by
 obtain⟨p,d,h1,h2⟩:=h
 exact⟨p,d,h1.far e f g,h2⟩
theorem PQ.ext {w a:World} {B c q:Nat} {b:List UInt8}(h:PQ F w B c b q)(e:Ext w a):PQ F a B c b q:=by
 obtain⟨p,d,h1,h2⟩:=h
 exact⟨p,d,h1.keep (fun k f=>e.block k (q116 f h1.lt.2)) e.size,h2⟩
theorem pq_new(v:Value)(l:List UInt8)(w:World)(d:Row1 w v (l.map bval))(b:l.length≤1099511627776):
  Calls Tryz.prog 31 #[v] w fun e a=>∃B c,e=.returned (.pointer (some ⟨c,0,none⟩))∧PQ (fun k=>w.heap.size≤k) a B c l 0∧w.heap.size≤c∧Below w.heap.size w a:=
 (pnewF v l w d b).mono fun e a ⟨B,c,h1,h2,h3⟩=>⟨B,c,h1,⟨0,false,h2,Cur.start l⟩,h3⟩
theorem pq_raw {b:List UInt8}(w:World)(B c q n:Nat)(h:PQ F w B c b q):
  Calls Tryz.prog 32 #[.pointer (some ⟨c,0,none⟩),.int .i64 (n:Int)] w fun e a=>∃v,e=.returned v∧a.ownsRow w.heap.size 5 1 v (cuL b q n).length ((cuL b q n).map bval)∧PQ F a B c b (q+n)∧w.grownBy a (some c):=by
 obtain⟨p,d,h1,h2⟩:=h
 rw[←h2.list n]
 exact(pcur_raw w B c p n d h1).mono fun e a ⟨v,e1,e2,e3,e4⟩=>⟨v,e1,e2,⟨_,_,e3,h2.next n⟩,e4⟩
theorem pq_int {b:List UInt8}(w:World)(B c q:Nat)(h:PQ F w B c b q):
  Calls Tryz.prog 33 #[.pointer (some ⟨c,0,none⟩)] w fun e a=>e=.returned (.int .i64 (cuI b q))∧PQ F a B c b (q+8)∧w.grownBy a (some c):=by
 obtain⟨p,d,h1,h2⟩:=h
 rw[←h2.int]
 exact(pcur_int w B c p d h1).mono fun e a ⟨e1,e3,e4⟩=>⟨e1,⟨_,_,e3,h2.next 8⟩,e4⟩
theorem pq_end {b:List UInt8}(w:World)(B c q:Nat)(h:PQ F w B c b q):
  Calls Tryz.prog 34 #[.pointer (some ⟨c,0,none⟩)] w fun e a=>e=.returned (.bool (decide (b.length=q)))∧Ext w a:=by
 obtain⟨p,d,h1,h2⟩:=h
 rw[←h2.ends]
 refine(pend w B c b p d h1).mono fun e a h=>⟨h.1,?_⟩
 obtain⟨k,rfl⟩:=h.2
 exact below_drewN (Below.refl _ _) k
end
theorem mRead_any(b:List UInt8)(V:Value)(w:World)(u:Row1 w V (b.map bval))(af:b.length≤1000000):
  Calls Tryz.prog 14 #[V] w fun e w'=>∃wv,e=.returned (.tuple #[.agg (manC (readM b) wv).toArray,.int .i64 (readE b)])∧Row1 w' wv ((readM b).wr.map bval)∧Below w.heap.size w w':=by
 have HV:=jh u
 have ah:Hid (b.length≤1099511627776):=jh (by omega)
 have HB:=jh (boxes2 w (manC manZ (.slice none 0 0)) (manC manZ (.slice none 0 0)) 30 30)
 have y:=jh (fun h=>mread_none (@mread_no b h))
 have D:=jh (fun h1 h2 h3=>mread_is (@mread_yes b h1 h2 h3))
 have E:=jh (zcj zcx (.slice none 0 0))
 clear u af
 go_enter Tryz.func14,Tryz.ntmps14
 go_wp2_with fail
 refine zdr 0 (by rfl) ?_
 go_upto_region 2 with(fail)
 obtain⟨h1,h2,W⟩:=HB.o
 change Code.wp _ _ _ _ ((w.alloc (.cells (manC manZ (.slice none 0 0)).toArray 30)).alloc (.cells (manC manZ (.slice none 0 0)).toArray 30))
 have a7:((w.alloc (.cells (manC manZ (.slice none 0 0)).toArray 30)).alloc (.cells (manC manZ (.slice none 0 0)).toArray 30)).heap.size=w.heap.size+1+1:=by simp
 generalize (w.alloc (.cells (manC manZ (.slice none 0 0)).toArray 30)).alloc (.cells (manC manZ (.slice none 0 0)).toArray 30)=I at*
 obtain⟨S,hS⟩:=nxq (w.heap.size+1)
 rw[←hS]at h2 a7⊢
 obtain⟨C,hC⟩:=nxq w.heap.size
 rw[←hC]at h1⊢
 have HO:Hid (w.heap.size=C∧S=C+1∧I.heap.size=S+1):=jh (by omega)
 obtain⟨H1,H2⟩:=jq2 h1 h2
 have X:Hid (Ext w I):=jh W
 clear h1 h2 W a7 hS hC HB
 have HN:=jh (pq_new V b I (HV.o.below X.o) ah.o)
 go_wp2_with fail
 refine HN.o.mono ?_
 rintro e w1 ⟨B,K,rfl,i,aa,L⟩
 have x:Hid (¬(I.heap.size≤S)):=jh (by have:=HO.o;omega)
 have c:Hid (RM w w1 C K S manZ (.slice none 0 0) (.slice none 0 0) []):=jh (by
  have h1:=HO.o
  refine⟨X.o.trans L,zcx,zak H1.o L,zak H2.o L,Row1.nil _,(fun k e=>by cases e),Row1.nil _,(fun k e=>by cases e),by omega,by omega,by omega,by omega,by omega,by omega⟩)
 have d:=jh i
 clear i aa L HN H1 H2 X
 go_wp2_with fail
 refine(pq_raw w1 B K 0 4 d.o).mono ?_
 rintro e w2 ⟨tv,rfl,l,i,f⟩
 have a4:=zco (P:=Tryz.prog) (v:=tv) 24 9 5 q104 q113 q147 (Row1.of_own l)
 obtain⟨d,c⟩:=jq2 i (c.o.grow f)
 clear l i f
 obtain⟨tl,a6⟩:=nxq (cuL b 0 4)
 rw[←a6]at y D a4
 clear a6
 by_cases r:tl=[80,67,77,49]
 ·have ac:=jh r
  subst r
  go_wp2_with fail
  refine(pq_int w2 B K 4 d.o).mono ?_
  rintro e w3 ⟨rfl,i,f⟩
  obtain⟨d,c⟩:=jq2 i (c.o.grow f)
  clear i f
  go_wp2_with fail
  refine(pq_int w3 B K 12 d.o).mono ?_
  rintro e w4 ⟨rfl,i,f⟩
  obtain⟨d,c⟩:=jq2 i (c.o.grow f)
  clear i f
  obtain⟨ov,F,G⟩:=c.o.see 0 (by omega)
  obtain⟨ow,ae,ag⟩:=c.o.see 1 (by omega)
  clear a4
  go_upto_region 5 with(fail)
  obtain⟨r,f⟩:=c.o.cell0 (cuI b 4)
  have d:=jh (d.o.far f c.o.oc.2.2.2.2.2.symm x.o)
  obtain⟨O,a3⟩:=r.cell1 (cuI b 12)
  obtain⟨d,c⟩:=jq2 (d.o.far a3 r.oc.2.2.2.2.2.symm x.o) O
  clear r f O a3 F G ae ag
  generalize (w4.setCell ⟨S,0,none⟩ (.int .i64 (cuI b 4))).setCell ⟨S,1,none⟩ (.int .i64 (cuI b 12))=w5 at*
  refine wp_region_held_drew (S:=fun _=>True) (by kernel_rfl) trivial (fun g=>?_)
  refine tke 0 (.pointer (some ⟨S,2,none⟩)) rfl (zaz (.pointer (some ⟨S,2,none⟩)) (by rfl) (fun w _=>by go_simp)) g ?_
  simp only[nm]
  refine tke 1 (.slice (some ⟨S,2,none⟩) 32 32) rfl (zbp _ _ _ _ (.pointer (some ⟨S,2,none⟩)) (.slice (some ⟨S,2,none⟩) 32 32) none none (by rfl) rfl rfl rfl rfl (fun w=>zdb q102 q111 (by omega) _ _ w)) g ?_
  simp only[nm]
  refine tke 2 (.pointer (some ⟨K,0,none⟩)) rfl (zbe _ (.pointer (some ⟨K,0,none⟩)) (by rfl) rfl rfl) g ?_
  simp only[nm]
  refine wpAnyH_ready (rs:=[3]) (by kernel_rfl) (by simp) (AllReadyH.cons rfl (fun K0 j=>?_) AllReadyH.nil)
  go_simp
  have c:=jh (c.o.below (Ext.drew w5))
  refine(pq_raw w5.drew B K 20 32 (d.o.ext (Ext.drew _))).mono ?_
  rintro e w6 ⟨U,rfl,l,i,f⟩
  have m:=Row1.of_own l
  obtain⟨T,Q,t,_⟩:=id m
  rw[q100]at t
  subst t
  obtain⟨s,d,c⟩:=jq3 m i (c.o.grow f)
  clear m l i f
  refine j.o _ _ trivial (fun g=>?_)
  clear j K0
  try simp only[nm]
  refine wpAnyH_ready (rs:=[4]) (by kernel_rfl) (by simp) (AllReadyH.cons rfl (fun K0 j=>?_) AllReadyH.nil)
  refine zan (by rfl) ?_
  refine zbu _ _ 24 24 rfl 5 q104 one_u8m _ _ _ _ _ _ rfl rfl S 2 _ _ c.o.hs ((cuL b 20 32).map bval) (by rw[q100];exact(q140 zcl).symm) (fun h=>⟨rfl,row_src s.o (cuL b 20 32) (by rw[q133]) (q101 _) (Ext.refl _) h⟩) (by have:=@zcl b 20 32;rw[q100,zba c.o.arr];omega) (zac _) ?_
  intro w7 n q
  rw[cu_root (a:=c.o.arr) rfl]at n
  have d:=jh (d.o.far q c.o.oc.2.2.2.2.2.symm x.o)
  have c:=jh (c.o.put q n (put_root c.o.arr (zck _ _ _)) rfl)
  clear n q s
  refine j.o _ _ trivial (fun g=>?_)
  clear j K0 g
  try simp only[nm]
  refine dne ?_
  go_wp2_with fail
  refine(pq_raw w7 B K 52 80 d.o).mono ?_
  rintro e w8 ⟨xv,rfl,l,i,f⟩
  obtain⟨a8,R,d,c⟩:=jq4 (c.o.fresh d.o.lt l.lt) (Row1.of_own l) i (c.o.grow f)
  clear l i f
  obtain⟨xa,xc,Z,_⟩:=id R.o
  rw[q100]at Z
  subst Z
  obtain⟨ov,F,G⟩:=c.o.see 34 (by omega)
  go_upto_region 7 with(fail)
  obtain⟨r,f⟩:=c.o.cell34 R.o a8.o
  obtain⟨d,c⟩:=jq2 (d.o.far f c.o.oc.2.2.2.2.2.symm x.o) r
  clear r f F G R a8
  generalize w8.setCell ⟨S,34,none⟩ (.slice xa (cuL b 52 80).length xc)=w9 at*
  generalize Value.slice xa (cuL b 52 80).length xc=wv at*
  go_wp2_with fail
  refine(pq_int w9 B K 132 d.o).mono ?_
  rintro e ab ⟨rfl,i,f⟩
  obtain⟨d,c⟩:=jq2 i (c.o.grow f)
  clear i f
  obtain⟨ov,F,G⟩:=c.o.see 35 (by omega)
  go_upto_region 8 with(fail)
  obtain⟨r,f⟩:=c.o.cell35 (cuI b 132)
  obtain⟨d,c⟩:=jq2 (d.o.far f c.o.oc.2.2.2.2.2.symm x.o) r
  clear r f F G
  generalize ab.setCell ⟨S,35,none⟩ (.int .i64 (cuI b 132))=a2 at*
  refine wp_region_held_drew (S:=fun _=>True) (by kernel_rfl) trivial (fun g=>?_)
  refine tke 0 (.pointer (some ⟨S,35,none⟩)) rfl (zaz (.pointer (some ⟨S,35,none⟩)) (by rfl) (fun w _=>by go_simp)) g ?_
  simp only[nm]
  refine tke 1 (.pointer (some ⟨S,36,none⟩)) rfl (zaz (.pointer (some ⟨S,36,none⟩)) (by rfl) (fun w _=>by go_simp)) g ?_
  simp only[nm]
  refine tke 2 (.slice (some ⟨S,36,none⟩) 32 32) rfl (zbp _ _ _ _ (.pointer (some ⟨S,36,none⟩)) (.slice (some ⟨S,36,none⟩) 32 32) none none (by rfl) rfl rfl rfl rfl (fun w=>zdb q102 q111 (by omega) _ _ w)) g ?_
  simp only[nm]
  refine tke 3 (.pointer (some ⟨K,0,none⟩)) rfl (zbe _ (.pointer (some ⟨K,0,none⟩)) (by rfl) rfl rfl) g ?_
  simp only[nm]
  refine wpAnyH_ready (rs:=[4]) (by kernel_rfl) (by simp) (AllReadyH.cons rfl (fun K0 j=>?_) AllReadyH.nil)
  go_simp
  have c:=jh (c.o.below (Ext.drew a2))
  refine(pq_raw a2.drew B K 140 32 (d.o.ext (Ext.drew _))).mono ?_
  rintro e al ⟨U,rfl,l,i,f⟩
  have m:=Row1.of_own l
  obtain⟨T,Q,t,_⟩:=id m
  rw[q100]at t
  subst t
  obtain⟨s,d,c⟩:=jq3 m i (c.o.grow f)
  clear m l i f
  refine j.o _ _ trivial (fun g=>?_)
  clear j K0
  try simp only[nm]
  refine wpAnyH_ready (rs:=[5]) (by kernel_rfl) (by simp) (AllReadyH.cons rfl (fun K0 j=>?_) AllReadyH.nil)
  refine zan (by rfl) ?_
  refine zbu _ _ 24 24 rfl 5 q104 one_u8m _ _ _ _ _ _ rfl rfl S 36 _ _ c.o.hs ((cuL b 140 32).map bval) (by rw[q100];exact(q140 zcl).symm) (fun h=>⟨rfl,row_src s.o (cuL b 140 32) (by rw[q133]) (q101 _) (Ext.refl _) h⟩) (by have:=@zcl b 140 32;rw[q100,zba c.o.arr];omega) (zac _) ?_
  intro a5 n q
  rw[cu_ckey (a:=c.o.arr) rfl]at n
  have d:=jh (d.o.far q c.o.oc.2.2.2.2.2.symm x.o)
  have c:=jh (c.o.put q n (put_ckey c.o.arr (zck _ _ _)) rfl)
  clear n q s
  refine j.o _ _ trivial (fun g=>?_)
  clear j K0 g
  try simp only[nm]
  refine dne ?_
  go_wp2_with fail
  go_upto_region 9 with(fail)
  refine wp_region_held_drew (S:=fun _=>True) (by kernel_rfl) trivial (fun g=>?_)
  refine tke 0 (.pointer (some ⟨S,35,none⟩)) rfl (zaz (.pointer (some ⟨S,35,none⟩)) (by rfl) (fun w _=>by go_simp)) g ?_
  simp only[nm]
  refine tke 1 (.pointer (some ⟨S,68,none⟩)) rfl (zaz (.pointer (some ⟨S,68,none⟩)) (by rfl) (fun w _=>by go_simp)) g ?_
  simp only[nm]
  refine tke 2 (.slice (some ⟨S,68,none⟩) 64 64) rfl (zbp _ _ _ _ (.pointer (some ⟨S,68,none⟩)) (.slice (some ⟨S,68,none⟩) 64 64) none none (by rfl) rfl rfl rfl rfl (fun w=>zdb q126 q111 (by omega) _ _ w)) g ?_
  simp only[nm]
  refine tke 3 (.pointer (some ⟨K,0,none⟩)) rfl (zbe _ (.pointer (some ⟨K,0,none⟩)) (by rfl) rfl rfl) g ?_
  simp only[nm]
  refine wpAnyH_ready (rs:=[4]) (by kernel_rfl) (by simp) (AllReadyH.cons rfl (fun K0 j=>?_) AllReadyH.nil)
  go_simp
  have c:=jh (c.o.below (Ext.drew a5))
  refine(pq_raw a5.drew B K 172 64 (d.o.ext (Ext.drew _))).mono ?_
  rintro e aj ⟨U,rfl,l,i,f⟩
  have m:=Row1.of_own l
  obtain⟨T,Q,t,_⟩:=id m
  rw[q100]at t
  subst t
  obtain⟨s,d,c⟩:=jq3 m i (c.o.grow f)
  clear m l i f
  refine j.o _ _ trivial (fun g=>?_)
  clear j K0
  try simp only[nm]
  refine wpAnyH_ready (rs:=[5]) (by kernel_rfl) (by simp) (AllReadyH.cons rfl (fun K0 j=>?_) AllReadyH.nil)
  refine zan (by rfl) ?_
  refine zbu _ _ 24 24 rfl 5 q104 one_u8m _ _ _ _ _ _ rfl rfl S 68 _ _ c.o.hs ((cuL b 172 64).map bval) (by rw[q100];exact(q140 zcl).symm) (fun h=>⟨rfl,row_src s.o (cuL b 172 64) (by rw[q133]) (q101 _) (Ext.refl _) h⟩) (by have:=@zcl b 172 64;rw[q100,zba c.o.arr];omega) (zac _) ?_
  intro a1 n q
  rw[cu_csig (a:=c.o.arr) rfl]at n
  have d:=jh (d.o.far q c.o.oc.2.2.2.2.2.symm x.o)
  have c:=jh (c.o.put q n (put_csig c.o.arr (zck _ _ _)) rfl)
  clear n q s
  refine j.o _ _ trivial (fun g=>?_)
  clear j K0 g
  try simp only[nm]
  refine dne ?_
  go_wp2_with fail
  go_upto_region 10 with(fail)
  refine wp_region_held_drew (S:=fun _=>True) (by kernel_rfl) trivial (fun g=>?_)
  refine tke 0 (.pointer (some ⟨S,132,none⟩)) rfl (zaz (.pointer (some ⟨S,132,none⟩)) (by rfl) (fun w _=>by go_simp)) g ?_
  simp only[nm]
  refine tke 1 (.slice (some ⟨S,132,none⟩) 64 64) rfl (zbp _ _ _ _ (.pointer (some ⟨S,132,none⟩)) (.slice (some ⟨S,132,none⟩) 64 64) none none (by rfl) rfl rfl rfl rfl (fun w=>zdb q126 q111 (by omega) _ _ w)) g ?_
  simp only[nm]
  refine tke 2 (.pointer (some ⟨K,0,none⟩)) rfl (zbe _ (.pointer (some ⟨K,0,none⟩)) (by rfl) rfl rfl) g ?_
  simp only[nm]
  refine wpAnyH_ready (rs:=[3]) (by kernel_rfl) (by simp) (AllReadyH.cons rfl (fun K0 j=>?_) AllReadyH.nil)
  go_simp
  have c:=jh (c.o.below (Ext.drew a1))
  refine(pq_raw a1.drew B K 236 64 (d.o.ext (Ext.drew _))).mono ?_
  rintro e ak ⟨U,rfl,l,i,f⟩
  have m:=Row1.of_own l
  obtain⟨T,Q,t,_⟩:=id m
  rw[q100]at t
  subst t
  obtain⟨s,d,c⟩:=jq3 m i (c.o.grow f)
  clear m l i f
  refine j.o _ _ trivial (fun g=>?_)
  clear j K0
  try simp only[nm]
  refine wpAnyH_ready (rs:=[4]) (by kernel_rfl) (by simp) (AllReadyH.cons rfl (fun K0 j=>?_) AllReadyH.nil)
  refine zan (by rfl) ?_
  refine zbu _ _ 24 24 rfl 5 q104 one_u8m _ _ _ _ _ _ rfl rfl S 132 _ _ c.o.hs ((cuL b 236 64).map bval) (by rw[q100];exact(q140 zcl).symm) (fun h=>⟨rfl,row_src s.o (cuL b 236 64) (by rw[q133]) (q101 _) (Ext.refl _) h⟩) (by have:=@zcl b 236 64;rw[q100,zba c.o.arr];omega) (zac _) ?_
  intro a9 n q
  rw[cu_sig (a:=c.o.arr) rfl]at n
  have d:=jh (d.o.far q c.o.oc.2.2.2.2.2.symm x.o)
  have c:=jh (c.o.put q n (put_sig c.o.arr (zck _ _ _)) rfl)
  clear n q s
  refine j.o _ _ trivial (fun g=>?_)
  clear j K0 g
  try simp only[nm]
  refine dne ?_
  have c:Hid (RM w a9 C K S (manU b) wv (.slice none 0 0) []):=c
  obtain⟨J,Y⟩:=jq2 c.o.size (pq_end a9 B K 300 d.o)
  obtain⟨en,N⟩:=nxq (decide (b.length=300))
  rw[←N]at Y
  have H:=jh N
  clear N
  go_wp2_with fail
  refine Y.o.mono ?_
  rintro e ad ⟨rfl,u⟩
  have c:=jh (c.o.below u)
  clear u Y d
  cases en with
  |false=>
   have p:=jh (y.o (fun h=>by have:=of_decide_eq_false H.o.symm;exact this h.2.1))
   clear H y D
   go_wp2_with fail
   go_step3
   refine⟨rfl,?_⟩
   go_wp2_with (first|(refine zch rfl _ _ rfl _ rfl _ (build_man0 _) ?_)|(refine ssb C (manC manZ (.slice none 0 0)) c.o.hc rfl E.o (zda rfl) ?_;intro M A z))
   rw[Exit.noGoto_ret]
   refine bodyPost_ret (zau rfl _ C _ _ _ rfl A q118 rfl E.o) rfl ?_
   exact⟨.slice none 0 0,by rw[p.o.1,p.o.2];rfl,by rw[p.o.1];exact Row1.nil _,zab c.o.ext z c.o.oc.1⟩
  |true=>
   have a0:=jh (mval_any (manU b) wv ad c.o.arr c.o.hw)
   go_wp2_with (refine zdi (by rfl) _ _ rfl S 0 rfl _ _ c.o.hs.range q118 J.o ?_)
   refine a0.o.mono ?_
   rintro e ai ⟨rfl,u⟩
   have c:=jh (c.o.below u)
   clear u a0
   cases hok:(manU b).ok with
   |false=>
    have p:=jh (y.o (fun h=>by rw[hok]at h;cases h.2.2))
    clear H y D hok
    go_wp2_with fail
    go_step3
    refine⟨rfl,?_⟩
    go_wp2_with (first|(refine zch rfl _ _ rfl _ rfl _ (build_man0 _) ?_)|(refine ssb C (manC manZ (.slice none 0 0)) c.o.hc rfl E.o (zda rfl) ?_;intro M A z))
    rw[Exit.noGoto_ret]
    refine bodyPost_ret (zau rfl _ C _ _ _ rfl A q118 rfl E.o) rfl ?_
    exact⟨.slice none 0 0,by rw[p.o.1,p.o.2];rfl,by rw[p.o.1];exact Row1.nil _,zab c.o.ext z c.o.oc.1⟩
   |true=>
    have p:=jh (D.o ac.o (of_decide_eq_true H.o.symm) hok)
    clear H y D hok
    go_wp2_with (first|(refine wpList_load_mid rfl _ _ rfl S 0 rfl _ _ c.o.hs.range q118 rfl J.o ?_)|(refine ssb C (manC (manU b) wv) c.o.hc (by rw[zba c.o.arr,zba zcx]) J.o (zda (row_cell c.o.hw)) ?_;intro M A z))
    simp only[Exit.jump]
    refine bodyPost_ret (zau rfl _ C _ _ _ rfl A q118 rfl J.o) rfl ?_
    exact⟨wv,by rw[p.o.1,p.o.2];rfl,by rw[p.o.1];exact c.o.hw.grown z (fun k e e2=>(c.o.hwo k e2).1 (Option.some.inj e).symm),zab c.o.ext z c.o.oc.1⟩
 have p:=jh (y.o (fun h=>r h.1))
 have O:(tl==[80,67,77,49])=false:=by simpa using r
 clear y D
 go_wp2_with fail
 go_step3
 refine⟨rfl,?_⟩
 go_wp2_with (first|(refine zch rfl _ _ rfl _ rfl _ (build_man0 _) ?_)|(refine ssb C (manC manZ (.slice none 0 0)) c.o.hc rfl E.o (zda rfl) ?_;intro M A z))
 rw[Exit.noGoto_ret]
 refine bodyPost_ret (zau rfl _ C _ _ _ rfl A q118 rfl E.o) rfl ?_
 exact⟨.slice none 0 0,by rw[p.o.1,p.o.2];rfl,by rw[p.o.1];exact Row1.nil _,zab c.o.ext z c.o.oc.1⟩
theorem num17(n:Int)(w:World):Calls Tryz.prog 13 #[.int .i64 n] w fun e a=>e=.returned (.int .i64 n)∧w=a:=by
 go_enter Tryz.func13,Tryz.ntmps13
 go_wp2_with fail
 go_ret
 exact⟨rfl,rfl⟩
theorem read_nil:readM []=manZ∧readE []=4:=mread_none (manR_long (by decide))
def GI(w:World):Prop:=GlobK w∧GV w
theorem alive_any17(w:World)(C:GI w):Calls Tryz.prog 8 #[] w fun e u=>e=.returned (.bool true)∧Below w.heap.size w u:=by
 have B:=jh C
 have y:=jh (mRead_any [] (.slice none 0 0) w (Row1.nil _) (by decide))
 rw[read_nil.1,read_nil.2]at y
 obtain⟨c,d⟩:=nxq (issM (setRoot 1) (setSign 1) (setDev 1) (setKey 1) 1 2 [])
 have h:Hid c.Arr:=jh (by rw[d];exact issM_arr _ _ _ _ _ _ _)
 have z:c.ok=true:=by rw[d];exact issM_ok (by decide) (by decide) (by simp)
 have D:=jh (mread_is (manR_pack h.o z))
 have K:Hid (c.pack.length=300):=jh (Man.pack_length h.o (Man.ok_all z).2.2.2.1)
 have J:Hid (c.ver=2):=jh (by rw[d];rfl)
 have H:Hid (c.blk=1):=jh (by rw[d];rfl)
 have Q:=jh d
 clear C d z
 go_enter Tryz.func8,Tryz.ntmps8
 go_wp2_with fail
 refine y.o.mono ?_
 rintro e n ⟨wv,rfl,q,b⟩
 have k:=jh q
 have a:Hid (Ext w n):=jh b
 clear q b y
 obtain⟨j,l,r⟩:=jq3 (Blk.made n (manC manZ (.slice none 0 0)) 30) (Ext.alloc n (.cells (manC manZ (.slice none 0 0)).toArray 30)) (zcj zcx wv)
 have s:Hid ((manC manZ wv).length=(manC manZ (.slice none 0 0)).length):=jh (by rw[zba zcx,zba zcx])
 have g:=jh (zda (m:=manZ) (row_cell k.o))
 go_upto_region 2 with(refine ssb n.heap.size (manC manZ wv) j.o s.o r.o g.o ?_;intro P f p)
 have M:=jh f
 have i:=jh (zab l.o p (q101 _))
 have a:=xxt a i.o
 generalize n.heap.size=T at*
 clear f p j l r s g
 clear k M i
 go_wp2_with fail
 refine(rSetOf_any 1 P (B.o.1.ext a.o)).mono ?_
 rintro e O ⟨rfl,b⟩
 have a:=xxt a b
 clear b
 go_wp2_with fail
 refine(rManifest_nil (setRoot 1) (setSign 1) (setDev 1) (setKey 1) 1 2 O (zaj _ _) (zaj _ _) (zaj _ _) (zaj _ _) (by decide) (by decide) (B.o.1.ext a.o) (B.o.2.ext a.o)).mono ?_
 rintro e I ⟨x,R,rfl,v,b⟩
 rw[←Q.o]at v
 have G:=jh (Row1.of_own v)
 have a:=xxt a b
 clear v b
 have A:=jh (mRead_any c.pack x I G.o (by rw[K.o];decide))
 rw[D.o.1,D.o.2]at A
 go_wp2_with fail
 refine A.o.mono ?_
 rintro e t ⟨wv,rfl,q,b⟩
 have k:=jh q
 have a:=xxt a b
 clear q b A G
 obtain⟨j,l,r⟩:=jq3 (Blk.made t (manC manZ (.slice none 0 0)) 30) (Ext.alloc t (.cells (manC manZ (.slice none 0 0)).toArray 30)) (zcj h.o wv)
 have s:Hid ((manC c wv).length=(manC manZ (.slice none 0 0)).length):=jh (by rw[zba h.o,zba zcx])
 have g:=jh (zda (m:=c) (row_cell k.o))
 go_upto_region 4 with(refine ssb t.heap.size (manC c wv) j.o s.o r.o g.o ?_;intro F f p)
 have E:=jh f
 have i:=jh (zab l.o p (q101 _))
 have a:=xxt a i.o
 generalize t.heap.size=S at*
 clear f p j l r s g
 obtain⟨N,L,_⟩:=zed E.o h.o
 rw[J.o]at N
 rw[H.o]at L
 clear k E i
 go_wp2_with fail
 refine(num17 4 F).mono ?_
 rintro e u ⟨rfl,rfl⟩
 go_wp2_with fail
 refine(num17 0 F).mono ?_
 rintro e u ⟨rfl,rfl⟩
 go_wp2_with fail
 go_ret
 exact⟨rfl,a.o⟩
theorem move_cap(k w:World)(M a f K C:Nat)(O N:Value)(o l:List UInt8)(T:TypeId)(b:Blk w M [O,N] 105)(t:Row1 k O (o.map bval))(E:Blk w a (l.map bval) T)(a8:l.length=C)(hf:f<K)(ac:K≤C)(hK:C≤128)
  (L:Ext k w) (h0:k.heap.size≤M) (a7:M<a):
  Calls Tryz.prog 101 #[.pointer (some ⟨M,0,none⟩),.slice (some ⟨a,f,none⟩) (K - f) (C - f)] w fun e g=>
   ∃B c,c=o.take (K - f)∧e=.returned (.int .i64 (c.length:Int))∧Blk g M [B,N] 105∧Row1 k B ((o.drop c.length).map bval)∧Blk g a ((l.take f++c++l.drop (f+c.length)).map bval) T∧Below M w g∧But M a w g:=by
 obtain⟨c,i,y,A⟩:=front_take o (K - f)
 have S:c.length≤o.length:=by rw[i];exact Nat.min_le_left _ _
 have af:c.length≤K - f:=by rw[i];exact Nat.min_le_right _ _
 obtain⟨v',m,a2⟩:=row_cut q104 q111 t c.length (by rw[q100];exact S)
 rw[←List.map_drop]at m
 obtain⟨u,R,rfl,W,t2,Q,F⟩:=t
 rw[q100]at W a2 b
 unfold maxLen at t2
 have P:Hid (0<(c.map bval).length→some (⟨a,f,none⟩:Addr)=some ⟨a,f,none⟩∧∃ad,u=some ad∧∀(j:Nat) (v:Value),(c.map bval)[j]? =some v→w.cell? (ad.add j)=some v):=jh (fun h=>by
  rw[q100]at h
  obtain⟨b3,a1,rfl,t5,t6⟩:=F (by intro e;have h:=congrArg List.length e;rw[q100]at h;simp only[q121]at h;omega)
  refine⟨rfl,_,rfl,fun j v r=>?_⟩
  have a5:j<c.length:=by
   rcases q114 j c.length with h|h
   ·exact h
   rw[List.getElem?_eq_none (by rw[q100];exact h)]at r;cases r
  have e:=t6 j (by rw[q100];omega)
  have Z:(o.map bval)[j]? =(c.map bval)[j]? :=by rw[y,q110,List.getElem?_append_left (by rw[q100];exact a5)]
  rw[WideShapes.add_plain,←r,←Z,←e]
  exact L.cell (p:=⟨b3,a1+j,none⟩) t5)
 have H:=jh (E:w.heap[a]? =some (.cells (l.map bval).toArray T (0,0)))
 have x:Hid ((c.map bval).length=Nat.min o.length (K - f)):=jh (by rw[q100,i])
 have D:Hid (f+(c.map bval).length≤(l.map bval).length):=jh (by rw[q100,q100,a8];omega)
 obtain⟨V,z,I⟩:=jq3 (Below.refl M w) (splice_map l c f) b
 obtain⟨a4,ae,rfl,_⟩:=id m
 have HV:=jh m
 generalize ((o.drop c.length).map bval).length=n4 at*
 have U:=jh A
 have n:=b.cell 0
 have X:=b.free 0
 simp only[List.getElem?_cons_zero,List.getElem?_cons_succ]at n
 have a9:(c.length:Int)≤(o.length:Int):=by omega
 have ab:(0:Int)≤(c.length:Int):=Int.natCast_nonneg _
 have aa:=b.lt
 clear b E m y A Q F L i
 go_enter Tryz.func101,Tryz.ntmps101
 go_upto_region 2 with(refine wpList_copy_splice rfl (.tmp 6) (.tmp 10) 24 24 rfl 5 q104 num_one (some ⟨a,f,none⟩) u (K - f) (C - f) o.length R rfl rfl a f (l.map bval) T H.o (c.map bval) x.o P.o D.o (zac _) a w (Below.refl _ w) (q101 _) ?_;intro G J d)
 have s:=J.o
 rw[z.o]at s
 have q:=jh (I.o.same (d.block M (by omega)))
 have a6:Hid (Blk G a ((l.take f++c++l.drop (f+c.length)).map bval) T):=jh s
 have a0:=jh (d.mono (Nat.le_of_lt a7))
 have Y:Hid (But M a w G):=jh (But.of_below d)
 have n:=q.o.cell 0
 have X:=q.o.free 0
 simp only[List.getElem?_cons_zero,List.getElem?_cons_succ]at n
 clear J d s P H x D V z I
 go_wp2_with fail
 go_ret
 exact⟨_,c,U.o,rfl,q.o.set 0 _,HV.o,a6.o.far (by simp;omega) _,Below.setCell a0.o (by simp) _,Y.o.set rfl _⟩
def MsgSt(w0 w:World)(M:Nat)(r:List UInt8):Prop:=
 ∃(ov bv:Value) (o:List UInt8) (ls:List (List UInt8)),Blk w M [ov,bv] 105∧Row1 w0 ov (o.map bval)∧RowB w0 bv ls∧r=o++ls.flatten
theorem MsgSt.same {a w b:World} {M:Nat} {r:List UInt8}(h:MsgSt a w M r)(c:b.heap[M]? =w.heap[M]?):MsgSt a b M r:=by
 obtain⟨f,e,o,d,h1,h2⟩:=h
 exact⟨f,e,o,d,h1.same c,h2⟩
theorem MsgSt.lt {a w:World} {M:Nat} {r:List UInt8}(h:MsgSt a w M r):M<w.heap.size:=by
 obtain⟨d,c,o,b,h1,h2⟩:=h
 exact h1.lt
def FillSaid(w0 w w':World)(M Bo K:Nat)(r l:List UInt8)(T:TypeId)(e:Ending):Prop:=
 ∃c,c=r.take K∧e=.returned (.int .i64 (c.length:Int))∧MsgSt w0 w' M (r.drop K)∧Blk w' Bo ((c++l.drop c.length).map bval) T∧Below M w w'
theorem fill_cap(k w:World)(M f K C:Nat)(r l:List UInt8)(T:TypeId)(hS:MsgSt k w M r)(hl:Blk w f (l.map bval) T)(O:l.length=C)(ao:0<K)(F:K≤C)(hK:C≤128)
  (U:Ext k w) (h0:k.heap.size≤M) (a5:M<f):
  Calls Tryz.prog 65 #[.pointer (some ⟨M,0,none⟩),.slice (some ⟨f,0,none⟩) K C] w fun e w'=>FillSaid k w w' M f K r l T e∧But M f w w':=by
 obtain⟨s,u,o,a,b,d,m,j⟩:=hS
 have P:=move_cap k w M f 0 K C s u o l T b d hl O ao F hK U h0 a5
 rw[Nat.sub_zero,Nat.sub_zero]at P
 obtain⟨D,HB,H,a8,HL⟩:=jq5 P m j U O
 clear P m j b d hl U O
 go_enter Tryz.func65,Tryz.ntmps65
 go_wp2_with fail
 refine D.o.mono ?_
 rintro e w1 ⟨aa,c,hc,rfl,b,d,g,i,n⟩
 obtain⟨X,a4,a6⟩:=jq3 n b d
 have a2:Hid (Blk w1 f ((c++l.drop c.length).map bval) T):=jh (by simpa using g)
 obtain⟨Z,B⟩:=jq2 i hc
 clear b d g i hc D n
 have a7:Hid (r=c++(o.drop c.length++a.flatten)∧c.length≤K∧(c.length<K→o.drop c.length=[])):=jh (by
  refine⟨?_,?_,?_⟩
  ·rw[H.o,B.o]
   rcases Nat.le_total K o.length with h|h
   ·rw[q107,q140 h,←q109,q130]
   rw[q108 h,List.drop_length,q115]
  ·rw[B.o,q107];exact Nat.min_le_left _ _
  intro h
  rw[B.o,q107]at h
  refine q174 ?_
  rw[B.o,q107]
  show o.length≤min K o.length
  omega)
 go_wp2_with fail
 go_loopw [5] (fun i5 wr=>∃(c o:List UInt8) (a:List (List UInt8)) (s u:Value),i5=.int .i64 (c.length:Int)∧(r=c++(o++a.flatten)∧c.length≤K∧(c.length<K→o=[]))∧Blk wr M [s,u] 105∧Row1 k s (o.map bval)∧RowB k u a∧Blk wr f ((c++l.drop c.length).map bval) T∧Below M w wr∧But M f w wr) (fun _ wr=>behindAt wr M)
 case atStart=>exact⟨c,o.drop c.length,a,aa,u,rfl,a7.o,a4.o,a6.o,HB.o,a2.o,Z.o,X.o⟩
 case round=>
  clear a7 a4 a6 HB a2 Z B H X
  obtain⟨c,o,a,s,u,rfl,⟨j,a3,G⟩,b,d,m,g,i,n⟩:=hrel
  have S:=jh n
  clear n
  have c0:=b.cell 0
  have c1:=b.cell 1
  have f0:=b.free 0
  have f1:=b.free 1
  simp only[List.getElem?_cons_zero,List.getElem?_cons_succ]at c0 c1
  by_cases E:c.length<K
  ·have aj:=G E
   subst aj
   have k1:(c.length:Int)<(K:Int):=by omega
   cases a with
   |nil=>
    obtain⟨ab,ak,rfl,g1,J⟩:=rowB_form m
    have I:Hid (MsgSt k wr M (r.drop K)):=jh ⟨s,_,[],[],b,d,m,by rw[j];simpa using Nat.le_of_lt E⟩
    obtain⟨A,x⟩:=jq2 g i
    have R:Hid (c=r.take K):=jh (by rw[j];simp only[List.flatten_nil,q129];exact(q108 a3).symm)
    clear b d m g i j G
    simp only[q121]at c1
    go_wp2_with fail
    go_ret
    unfold FillSaid
    exact⟨⟨c,R.o,rfl,I.o,A.o,x.o⟩,S.o⟩
   |cons l1 a=>
    obtain⟨b',V,ak,xv,ax,rfl,g1,J,Y,N,L,g6⟩:=rowB_tail m
    obtain⟨v,t,q,ah⟩:=row_slice N
    subst ah
    obtain⟨z,y,an,g7,g8⟩:=rowB_form L
    subst an
    have cx:wr.cell? ⟨b',V,none⟩=some (.slice v t q):=by
     rw[←Y]
     exact(Below.trans a8.o (i.mono h0)).cell (p:=⟨b',V,none⟩) J
    have hcut:=cut_row wr f c.length K C E F
    have n0:(0:Int)≤(a.length:Int):=Int.natCast_nonneg _
    have n1:(0:Int)<(a.length:Int)+1:=by omega
    have n2:(0:Int)<((a.length+1:Nat):Int):=by omega
    have n3:(1:Int)≤((a.length+1:Nat):Int):=by omega
    have ae:=jh (show behindAt wr M=a.length+1 by unfold behindAt;rw[c1];rfl)
    obtain⟨H,HM,A,x,HX,aq⟩:=jq6 j b g i N L
    unfold maxLen at g1 g7
    clear b d m g i j G J Y N L
    go_upto_region 3 with(fail)
    go_region
    have W:Hid (Blk ((wr.setCell ⟨M,0,none⟩ (.slice v t q)).setCell ⟨M,1,none⟩ (.slice z a.length y)).drew M [.slice v t q,.slice z a.length y] 105):=jh (((HM.o.set 0 _).set 1 _).drewN 1)
    have a9:Hid (Blk ((wr.setCell ⟨M,0,none⟩ (.slice v t q)).setCell ⟨M,1,none⟩ (.slice z a.length y)).drew f ((c++l.drop c.length).map bval) T):=jh (((A.o.far (by simp;omega) _).far (by simp;omega) _).drewN 1)
    have Q:Hid (Below M w ((wr.setCell ⟨M,0,none⟩ (.slice v t q)).setCell ⟨M,1,none⟩ (.slice z a.length y)).drew):=jh ((Below.setCell (Below.setCell x.o (by simp) _) (by simp) _).drew)
    have ap:Hid (But M f w ((wr.setCell ⟨M,0,none⟩ (.slice v t q)).setCell ⟨M,1,none⟩ (.slice z a.length y)).drew):=jh ((S.o.set rfl _).set rfl _).drew
    generalize ((wr.setCell ⟨M,0,none⟩ (.slice v t q)).setCell ⟨M,1,none⟩ (.slice z a.length y)).drew=w2 at*
    clear HM A x c0 c1 f0 f1 cx
    have D:=jh (move_cap k w2 M f c.length K C _ _ l1 (c++l.drop c.length) T W.o HX.o a9.o (by simp[HL.o];omega) E F hK (Below.trans a8.o (Q.o.mono h0)) h0 a5)
    have hcut:=cut_row w2 f c.length K C E F
    go_wp2_with fail
    refine D.o.mono ?_
    rintro e w3 ⟨av,c2,a0,rfl,b,d,g,i,n⟩
    have ag:=jh (ap.o.trans n)
    rw[fill_row]at g
    obtain⟨HN,a1,al,ad,af⟩:=jq5 (fill_next H.o a3 a0) b d g (Below.trans Q.o i)
    have aw:(c2.length:Int)≤128:=by have:=HN.o.2.1;rw[q105]at this;omega
    have ar:(0:Int)≤(c2.length:Int):=Int.natCast_nonneg _
    have c1:=a1.o.cell 1
    simp only[List.getElem?_cons_zero,List.getElem?_cons_succ]at c1
    have ai:=jh (show behindAt w3 M=a.length by unfold behindAt;rw[c1];rfl)
    clear b d g i n a0 D W a9 Q c1
    go_wp2_with fail
    go_roundw
    case rel=>exact⟨c++c2,_,a,_,_,by rw[q105];go_num,HN.o,a1.o,al.o,aq.o,ad.o,af.o,ag.o⟩
    case measure=>rw[ai.o,ae.o];omega
  have ac:c.length=K:=by omega
  have am:¬(c.length:Int)<(K:Int):=by omega
  have au:decide ((c.length:Int)<(K:Int))=false:=decide_eq_false am
  have I:Hid (MsgSt k wr M (r.drop K)):=jh ⟨s,u,o,a,b,d,m,by rw[j,List.drop_append_of_le_length (by omega),List.drop_of_length_le (by omega),q115]⟩
  obtain⟨A,x⟩:=jq2 g i
  have R:Hid (c=r.take K):=jh (by rw[j,q166 (by omega),q108 (by omega)])
  clear b d m g i j G ac
  go_wp2_with fail
  go_ret
  unfold FillSaid
  exact⟨⟨c,R.o,rfl,I.o,A.o,x.o⟩,S.o⟩
theorem fill_any(a w:World)(M b K:Nat)(r l:List UInt8)(T:TypeId)(g:MsgSt a w M r)(k:Blk w b (l.map bval) T)(d:l.length=K)(m:0<K)(f:K≤128)
  (i:Ext a w) (h0:a.heap.size≤M) (j:M<b):
  Calls Tryz.prog 65 #[.pointer (some ⟨M,0,none⟩),.slice (some ⟨b,0,none⟩) K K] w fun e c=>FillSaid a w c M b K r l T e:=
 (fill_cap a w M b K K r l T g k d m (q101 _) f i h0 j).mono fun _ _ h=>h.1
theorem msg_size:(Tryz.prog.info? 105).map (·.size)=some (#[Value.slice none 0 0,Value.slice none 0 0]).size:=by kernel_rfl
theorem of_any(a:Option Addr)(n b:Nat)(w:World):
  Calls Tryz.prog 64 #[.slice a n b] w fun e c=>e=.returned (.agg #[.slice none 0 0,.slice a n b])∧Below w.heap.size w c:=by
 go_enter Tryz.func64,Tryz.ntmps64
 go_wp2_with fail
 refine bodyPost_ret (results_cell_row rfl _ _ w.heap.size _ _ _ _ rfl (Blk.made w [.slice none 0 0,.slice a n b] 105) Tryz.underlying105 rfl msg_size) rfl ?_
 exact⟨rfl,Ext.alloc w (.cells #[.slice none 0 0,.slice a n b] 105)⟩
def w8(a b c d e f g h:Nat):Nat:=a+256*b+65536*c+16777216*d+4294967296*e+1099511627776*f+281474976710656*g+72057594037927936*h
end Go.Proofs.YtgnfdonbholcdaaGreatDoor


