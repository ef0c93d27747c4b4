/- Lemmas. -/
import Derived.Test.YtgnfdonbholcdaaGreatDoorQz15
namespace Go.Proofs.YtgnfdonbholcdaaGreatDoor
set_option linter.unusedVariables false
set_option maxRecDepth 100000
set_option maxHeartbeats 32000000
set_option linter.unusedSimpArgs false
open Go.RowKit
section
open Go.ChangeShapes Go.WideShapes Go.ChangeAt Go.RowKit
section
variable {H:Type} {enc:TypeId×Value→H} {P:Program} {W:World}
theorem byte_of {b:Int}(h:(Lit.int .u8 b).wf=true):∃n:UInt8,b=(n.toNat:Int):=by
 have a:0≤b∧b≤255:=by simpa[Lit.wf,IntKind.min,IntKind.max,IntKind.signed,IntKind.bits]using h
 refine⟨UInt8.ofNat b.toNat,?_⟩
 rw[UInt8.toNat_ofNat']
 omega
theorem bytes_of_ints:∀{zs:List Int},(∀n∈zs,(Lit.int .u8 n).wf=true)→∃l:List UInt8,zs.map (Value.int .u8)=l.map bval
 |[],_=>⟨[],rfl⟩
 |z::r,h=>by
  obtain⟨n,c⟩:=byte_of (h z (List.mem_cons_self ..))
  obtain⟨l,a⟩:=bytes_of_ints (zs:=r) (fun x b=>h x (q171 _ b))
  exact⟨n::l,by simp only[q139,a,c];rfl⟩
end
end
section
open Go.ChangeShapes Go.WideShapes Go.ChangeAt Go.RowKit
section
variable {H:Type} {enc:TypeId×Value→H} {P:Program} {W:World}
theorem cells_of_arr {t e:TypeId} {n fuel:Nat} {a:List Value} {x:DataW H×List MemPlace}(ht:P.underlying t=some (.array n e))(z:P.underlying e=some (.int .u8))(v:P.cellsOf e=1)(j:P.cellsOf t=n)
  (h:DataW.trod enc P W 0 (fun _=>true) true fuel t a=some x):∃l:List UInt8,a=l.map bval∧l.length=n:=by
 obtain⟨q,m,_,_,d,A,b⟩:=DataW.trod_array ht h
 rw[j]at d
 have g:∀c∈a,∃n y,DataW.trod enc P W 0 (fun _=>true) true n e [c]=some y:=fun c u=>by
  obtain⟨i,r,rfl⟩:=List.getElem_of_mem u
  have:=b i (by omega)
  rw[v,q148]at this
  refine⟨m,q[i]'(by omega),?_⟩
  rw[List.getElem?_eq_getElem (by omega)]at this
  rw[←this]
  congr 1
  show [a[i]]=(a.drop i).take 1
  rw[q175 r]
  rfl
 obtain⟨zs,s,k⟩:=list_of_all (f:=Value.int .u8) (p:=fun n=>(Lit.int .u8 n).wf=true) (fun x b=>by
  obtain⟨n,y,h⟩:=g x b
  exact cell_int z h)
 subst s
 obtain⟨l,e⟩:=bytes_of_ints k
 refine⟨l,e,?_⟩
 have:=congrArg List.length e
 rw[q100,q100]at this
 rw[q100]at d
 omega
end
end
theorem body_flat {ver blk cid:Int} {root wr b a sig:List UInt8}:[([80,67,77,49]:List UInt8)++be8s [ver,blk],root,wr,be8s [cid],b,a].flatten=(Man.mk ver blk root wr cid b a sig).body:=by
 unfold Man.body
 simp[List.flatten]
section
open Go.ChangeShapes Go.WideShapes Go.ChangeAt Go.RowKit
section
variable {H:Type} {enc:TypeId×Value→H} {P:Program} {W:World}
theorem zdy {a:Array Field} {t:TypeId} {fuel:Nat} {b:List Value} {x:DataW H×List MemPlace}(ht:P.underlying t=some (.struct a))(h:DataW.trod enc P W 0 (fun _=>true) true fuel t b=some x)(i:Nat) {f:Field} {o k:Nat}(c:a[i]? =some f)(d:f.offset=o)(m:P.cellsOf f.type=k):
  ∃n y,DataW.trod enc P W 0 (fun _=>true) true n f.type ((b.drop o).take k)=some y:=by
 obtain⟨g,n,_,_,_,e,l⟩:=DataW.trod_struct ht h
 have h1:=l i f c
 have j:i<g.length:=by
  rw[e]
  exact(Array.getElem?_eq_some_iff.1 c).1
 rw[List.getElem?_eq_getElem j,d,m]at h1
 exact⟨n,_,h1⟩
theorem open_man {a0:Nat} {r:Reach} {t e tc:TypeId} {c f a y A u p z s:Field} {v:Value} {d:DataW H} {O:List MemPlace}(ht:P.underlying t=some (.struct #[c,f,a,y,A,u]))(a2:P.cellsOf t=196)
  (h0:P.underlying c.type=some (.int .i64)) (o0:c.offset=0) (c0:P.cellsOf c.type=1) (h1:P.underlying f.type=some (.int .i64)) (o1:f.offset=1) (c1:P.cellsOf f.type=1)
  (h2:P.underlying a.type=some (.array 32 e)) (o2:a.offset=2) (c2:P.cellsOf a.type=32) (h3:P.underlying y.type=some (.slice e)) (o3:y.offset=34) (c3:P.cellsOf y.type=1)
  (E:P.underlying A.type=some (.struct #[p,z,s])) (o4:A.offset=35) (c4:P.cellsOf A.type=97) (Z:P.underlying u.type=some (.array 64 e)) (X:u.offset=132) (R:P.cellsOf u.type=64)
  (k0:P.underlying p.type=some (.int .i64)) (Y:p.offset=0) (q0:P.cellsOf p.type=1) (k1:P.underlying z.type=some (.array 32 e)) (p1:z.offset=1) (M:P.cellsOf z.type=32) (k2:P.underlying s.type=some (.array 64 e)) (p2:s.offset=33) (S:P.cellsOf s.type=64)
  (n:P.underlying e=some (.int .u8)) (i:P.cellsOf e=1) (a3:Value.okWide P W r a0 t v) (hd:DataW.Trod enc P W 0 (fun _=>true) true t v d O):
  ∃(m:Man) (wv:Value),v=.agg (manC m wv).toArray∧m.Arr∧Row1 W wv (m.wr.map bval)∧(Lit.int .i64 m.ver).wf=true∧(Lit.int .i64 m.blk).wf=true∧(Lit.int .i64 m.cid).wf=true:=by
 obtain⟨w,rfl,L⟩:=okWide_struct ht a3
 rw[a2]at L
 obtain⟨l⟩:=w
 obtain⟨fuel,hf⟩:=hd
 have b:DataW.trod enc P W 0 (fun _=>true) true fuel t l=some (d,O):=hf
 have hl:l.length=196:=by simpa using L
 obtain⟨n0,y0,I⟩:=zdy ht b 0 rfl o0 c0
 obtain⟨n1,y1,Q⟩:=zdy ht b 1 rfl o1 c1
 obtain⟨n2,y2,t2⟩:=zdy ht b 2 rfl o2 c2
 obtain⟨n3,y3,J⟩:=zdy ht b 3 rfl o3 c3
 obtain⟨n4,y4,F⟩:=zdy ht b 4 rfl o4 c4
 obtain⟨n5,y5,t5⟩:=zdy ht b 5 rfl X R
 obtain⟨m0,z0,N⟩:=zdy E F 0 rfl Y q0
 obtain⟨m1,z1,s1⟩:=zdy E F 1 rfl p1 M
 obtain⟨m2,z2,U⟩:=zdy E F 2 rfl p2 S
 have K:∀{xs:List Value} {k:Nat},k<xs.length→(xs.drop k).take 1=[xs.getD k undef]:=fun {xs k} h=>by
  have e:xs.getD k undef=xs[k]:=by simp[List.getD,h]
  rw[e,q175 h]
  rfl
 rw[K (by omega)]at I Q J
 rw[K (by rw[q107,q120];omega)]at N
 obtain⟨ver,e0,V⟩:=cell_int h0 I
 obtain⟨blk,e1,w1⟩:=cell_int h1 Q
 obtain⟨root,e2,l2⟩:=cells_of_arr h2 n i c2 t2
 obtain⟨wr,e3⟩:=bytes_of_trod h3 n i J
 obtain⟨cid,e4,T⟩:=cell_int k0 N
 obtain⟨B,e5,l5⟩:=cells_of_arr k1 n i M s1
 obtain⟨g,e6,l6⟩:=cells_of_arr k2 n i S U
 obtain⟨sig,e7,l7⟩:=cells_of_arr Z n i R t5
 refine⟨⟨ver,blk,root,wr,cid,B,g,sig⟩,l.getD 34 undef,?_,⟨l2,l5,l6,l7⟩,e3,V,w1,T⟩
 congr 1
 unfold manC certC
 have G:∀(k j:Nat),l.drop k=(l.drop k).take j++l.drop (k+j):=fun k j=>by rw[←q162,q130]
 have C:∀k,k<196→l.drop k=l.getD k undef::l.drop (k+1):=fun k hk=>by
  have e:l.getD k undef=l[k]'(by omega):=by simp[List.getD,show k<l.length by omega]
  rw[e]
  exact q175 (by omega)
 have a4:(l.drop 35).take 97=.int .i64 cid::(B.map bval++g.map bval):=by
  have D:((l.drop 35).take 97).length=97:=by rw[q107,q120];omega
  generalize (l.drop 35).take 97=q at*
  match q,D with
  |x::rest,D=>
   have hr:rest.length=96:=by simpa using D
   have c:x=.int .i64 cid:=by simpa using e4
   have f:rest.take 32=B.map bval:=e5
   have a:rest.drop 32=g.map bval:=by
    have:(rest.drop 32).take 64=g.map bval:=e6
    rwa [q108 (by rw[q120];omega)]at this
   rw[c,←f,←a,q130]
 have a5:l.drop 132=sig.map bval:=by rwa [q108 (by rw[q120];omega)]at e7
 have a1:=C 34 (by omega)
 have hh:l=.int .i64 ver::.int .i64 blk::(root.map bval++(l.getD 34 undef::((.int .i64 cid::(B.map bval++g.map bval))++sig.map bval))):=by
  rw[←a4,←a5,←G 35 97,←a1,←e2,←G 2 32,←e1,←C 1 (by omega),←e0,←C 0 (by omega)]
  rfl
 simpa using hh
end
end
section
section
variable {P:Program} {ops:Array Oper} {Q:Exit→Act→World→Prop} {o:Oper} {a:Act} {w:World} {K:Act→World→Prop}
theorem ob_build {d:Option Nat}(t e:TypeId)(len:Nat)(g:Array (Nat×Operand))(c:List Value)(b:TypeInfo)(z:Value)(r:P.underlying t=some (.slice e))(k:P.info? e=some b)(n:b.zero=some z)(h1:b.size=1)
  (l:∀v f,Ext w f→Row1 f v c→f.ownsRow w.heap.size e 1 v len c→K (a.put d v) f)
  (p:Instr.fill (fun i=>some (i*b.size,b.size)) ((Array.range (len*b.size)).map (z.cells[·%z.cells.size]!)) (g.map fun (i,x)=>(i,a.eval x)).toList=some c.toArray)
  (m:Region.wanted o (yielded ops a.tmps)=true) (q:o.dst=d) (j:o.op=.buildSlice t len g) (h:c.length=len) (s:0<len∧len≤1000000):
  if Region.wanted o (yielded ops a.tmps)=true then o.wp P a w K Q else K (a.put d undef) w:=by
 rw[if_pos m]
 refine zbl d t e len g q j c.toArray b z r k n (by rw[h1];omega) (by rw[h1];omega) p ?_
 refine l _ _ (Ext.alloc _ _) ?_ ?_
 ·exact Row1.made w c.toArray e _ _ _ rfl rfl h (by unfold maxLen;omega)
 exact own_made _ _ _ _ _ _ rfl h (by unfold maxLen;omega) (q101 _)
theorem ob_mark {d:Option Nat}(x:Operand)(t e:TypeId) {base n:Nat} {v:Value} {c:List Value}(ht:P.underlying t=some (.slice e))(r:P.underlying e=some (.int .u8))(h:w.ownsRow base e 1 v n c)(B:0<n)
  (k:∀g b,w.grownBy b (some g)→base≤g→(∀x c,Row1 w x c→Row1 b x c)→K (a.put d v) b) (l:Region.wanted o (yielded ops a.tmps)=true) (y:o.dst=d) (i:o.op=.convert t t x) (q:a.eval x=v):
  if Region.wanted o (yielded ops a.tmps)=true then o.wp P a w K Q else K (a.put d undef) w:=by
 rw[if_pos l]
 have z:∃g f,v=.slice (some ⟨g,0,none⟩) n f:=by
  rcases h.2 with⟨_,h0⟩|⟨g,f,A,p,_⟩
  ·omega
  exact⟨g,f,p⟩
 obtain⟨g,f,rfl⟩:=z
 obtain⟨b,s,u,j,m⟩:=zds ht r h
 exact wp_conv_d d t t x _ _ _ y i q s (k g b u j m)
end
end
theorem pck_row_nums {w:World} {b off:Nat} {zs:List Int}(h:∀i,i<(zs.map (Value.int .i64)).length→w.cell? ⟨b,off+i,none⟩=(zs.map (Value.int .i64))[i]?):
  ∀i,i<zs.length→w.cell? ⟨b,off+i,none⟩=some (.int .i64 (zs.getD i 0)):=by
 intro i a
 rw[h i (by simpa using a)]
 simp[List.getD,a]
theorem be8_cells(n:Int):(zbi n).map bval=[.int .u8 (n / 72057594037927936%256),.int .u8 (n / 281474976710656%256),.int .u8 (n / 1099511627776%256),.int .u8 (n / 4294967296%256),.int .u8 (n / 16777216%256),.int .u8 (n / 65536%256),.int .u8 (n / 256%256),.int .u8 (n%256)]:=by
 simp[zbi,byte_cell]
theorem grown_own(w:World)(base n a:Nat)(e:TypeId)(b:Array Value)(c:base≤w.heap.size)(d:a≤maxLen)(f:b.size=a):(w.alloc (.cells b e)).ownsRow base e 1 (.slice (some ⟨w.heap.size,0,none⟩) 0 a) 0 []:=
 ⟨rfl,Or.inr ⟨w.heap.size,a,b,rfl,c,heap_alloc_new w _,q145 _,d,by omega,rfl⟩⟩
theorem cat_succ(a:List (List UInt8))(k:Nat)(l:List UInt8)(h:a[k]? =some l):(a.take (k+1)).flatten=(a.take k).flatten++l:=by
 have c:k<a.length:=by
  rcases q114 k a.length with b|b
  ·exact b
  rw[List.getElem?_eq_none b]at h;cases h
 rw[q143 c,List.flatten_append]
 rw[List.getElem?_eq_getElem c]at h
 cases h
 simp
theorem cat_part(a:List (List UInt8))(k:Nat):(a.take k).flatten.length≤a.flatten.length:=by
 have h:a.flatten=(a.take k).flatten++(a.drop k).flatten:=by rw[←List.flatten_append,q130]
 rw[h,q105]
 omega
theorem cat_all(a:List (List UInt8)):(a.take a.length).flatten=a.flatten:=by rw[q133]
section
theorem rowB6 {w:World} {v x y z u t s:Value} {l m n o p q:List UInt8}(h:Row1 w v [x,y,z,u,t,s])(f:Row1 w x (l.map bval))(g:Row1 w y (m.map bval))(e:Row1 w z (n.map bval))(j:Row1 w u (o.map bval))(ht:Row1 w t (p.map bval))(d:Row1 w s (q.map bval)):RowB w v [l,m,n,o,p,q]:=
 ⟨_,h,rfl,fun i c k a b=>by
  match i with
  |0=>simp at a b;subst a;subst b;exact f
  |1=>simp at a b;subst a;subst b;exact g
  |2=>simp at a b;subst a;subst b;exact e
  |3=>simp at a b;subst a;subst b;exact j
  |4=>simp at a b;subst a;subst b;exact ht
  |5=>simp at a b;subst a;subst b;exact d
  |i+6=>simp at a⟩
end
theorem GI.ext {w a:World}(h:GI w)(b:Ext w a):GI a:=⟨h.1.ext b,h.2.ext b⟩
theorem stdGrow_nil(n:Nat)(w:World)(p:n≤1099511627776):
  Calls Tryz.prog 60 #[.slice none 0 0,.int .i64 (n:Int)] w fun e f=>∃x,e=.returned x∧f.ownsRow w.heap.size 5 1 x 0 []∧Below w.heap.size w f:=by
 obtain⟨j,d,b,c,a⟩:=info_parts Tryz.info5
 have h0:(0:Int)≤(n:Int):=Int.natCast_nonneg _
 have s:=jh p
 go_enter Tryz.func60,Tryz.ntmps60
 rcases q151 n with rfl|k
 ·clear d b c a
  go_wp2_with fail
  go_ret
  exact⟨_,rfl,World.ownsRow_nil _ _ _ _,Below.refl _ _⟩
 have r:(0:Int)<(n:Int):=by omega
 have m:=jh (Lib.run_append_nil_zeros (P:=Tryz.prog) w 24 3 0 5 j (.int .u8 0) .i64 .i64 q104 rfl d b n k (by rw[c];decide) (by omega) (by rw[a];omega))
 have q:Hid (grownCap w n 0 5≤maxLen):=jh (grownCap_le_maxLen w n 0 _ (by unfold maxLen;omega))
 have i:Hid (n≤grownCap w n 0 5):=jh (grownCap_ge w n 0 _)
 have h:Hid ((Builtin.zeroCells (Value.cells (.int .u8 0)) n++Builtin.zeroCells (Value.cells (.int .u8 0)) (grownCap w n 0 5 - n)).size=grownCap w n 0 5):=jh (by
  rw[Array.size_append,size_zeroCells,size_zeroCells]
  have:=i.o
  simp[Value.cells]
  omega)
 clear d b c a
 generalize Builtin.zeroCells (Value.cells (.int .u8 0)) n++Builtin.zeroCells (Value.cells (.int .u8 0)) (grownCap w n 0 5 - n)=l at*
 generalize grownCap w n 0 5=g at*
 have t:(0:Int)≤(g:Int):=Int.natCast_nonneg _
 go_wp2_with (at_builtin;refine Lib.wpList_append_run _ rfl _ _ _ _ rfl _ _ rfl rfl _ _ m.o ?_)
 go_ret
 exact⟨_,rfl,grown_own w.drew _ n g _ l (q101 _) q.o h.o,below_drewN (Ext.alloc w _) 1⟩
theorem stdConcat_any(v:Value)(b:List (List UInt8))(w:World)(hv:RowB w v b)(G:b.flatten.length≤1099511627776):
  Calls Tryz.prog 28 #[v] w fun e C=>∃x,e=.returned x∧C.ownsRow w.heap.size 5 1 x b.flatten.length (b.flatten.map bval)∧Below w.heap.size w C:=by
 obtain⟨i0,R,D,L,Q⟩:=info_parts Tryz.info5
 obtain⟨X,Y,B,M⟩:=hv
 obtain⟨a,a9,rfl,r1,r2,W,K⟩:=id Y
 unfold maxLen at r2
 rw[B]at r1⊢
 obtain⟨a2,Z,a6,a4,O,F⟩:=jq6 R D L Q M K
 obtain⟨l,y⟩:=jq2 B G
 clear Y M W K G B R D L Q
 go_enter Tryz.func28,Tryz.ntmps28
 go_wp2_with fail
 go_loop [3,11] (fun sv g=>∃(k:Nat),k≤b.length∧g=.int .i64 (k:Int)∧sv=.int .i64 ((b.take k).flatten.length:Int)) (fun _ g=>b.length - (intOf g).toNat)
 case atStart=>exact⟨0,by omega,rfl,rfl⟩
 case round=>
  obtain⟨k,hk,rfl,rfl⟩:=hrel
  have k0:(0:Int)≤(k:Int):=Int.natCast_nonneg _
  by_cases j:k<b.length
  ·have k1:(k:Int)<(b.length:Int):=by omega
   obtain⟨r,off,rfl,S,q⟩:=F.o (by intro e;have h:=congrArg List.length e;rw[l.o]at h;simp only[q121]at h;omega)
   obtain⟨m,d⟩:∃x,X[k]? =some x:=⟨_,List.getElem?_eq_getElem (by rw[l.o];exact j)⟩
   obtain⟨c,i⟩:∃x,b[k]? =some x:=⟨_,List.getElem?_eq_getElem j⟩
   obtain⟨ax,cx,U,_⟩:=O.o k m c d i
   rw[q100]at U
   have f:=cat_succ b k c i
   have n:=cat_part b (k+1)
   rw[f,q105]at n
   have A:Hid ((b.take (k+1)).flatten.length=(b.take k).flatten.length+c.length):=jh (by rw[f,q105])
   have c0:w.cell? ⟨r,off+k,none⟩=some m:=by
    have h:=q k (by rw[l.o];exact j)
    rw[d]at h
    exact h
   subst U
   have hB:=y.o
   generalize (b.take k).flatten.length=p at*
   have a8:(p:Int)+(c.length:Int)≤1099511627776:=by omega
   have ab:(0:Int)≤(p:Int):=Int.natCast_nonneg _
   have aa:(0:Int)≤(c.length:Int):=Int.natCast_nonneg _
   have a7:(0:Int)≤(p:Int)+(c.length:Int):=by omega
   clear q d i f n
   go_wp2_with fail
   go_round
   case rel=>
    refine⟨k+1,by omega,by go_num,?_⟩
    rw[A.o]
    rfl
   case measure=>simp[intOf];omega
  have a3:(b.length:Int)≤(k:Int):=by omega
  obtain rfl:k=b.length:=by omega
  rw[cat_all]
  obtain⟨N,z⟩:=nxq b.flatten.length
  have a5:Hid (N≤1099511627776):=jh (by rw[z];exact y.o)
  rw[←z]
  have n0:(0:Int)≤(N:Int):=Int.natCast_nonneg _
  clear z
  go_wp2_with fail
  refine(stdGrow_nil N w a5.o).mono ?_
  rintro e w1 ⟨x1,rfl,H,J⟩
  have I:=jh H
  have V:Hid (Ext w w1):=jh J
  clear H J
  go_wp2_with fail
  go_loopw [6,27] (fun x g wr=>∃(k:Nat),k≤b.length∧g=.int .i64 (k:Int)∧wr.ownsRow w.heap.size 5 1 x (b.take k).flatten.length ((b.take k).flatten.map bval)∧Ext w wr) (fun _ g _=>b.length - (intOf g).toNat)
  case atStart=>exact⟨0,by omega,rfl,I.o,V.o⟩
  case round=>
   clear I V
   obtain⟨k,hk,rfl,E,u⟩:=hrel
   have k0:(0:Int)≤(k:Int):=Int.natCast_nonneg _
   obtain⟨s,t,HS⟩:=jq3 E u u.size
   clear E u
   by_cases j:k<b.length
   ·have k1:(k:Int)<(b.length:Int):=by omega
    obtain⟨r,off,rfl,S,q⟩:=F.o (by intro e;have h:=congrArg List.length e;rw[l.o]at h;simp only[q121]at h;omega)
    obtain⟨m,d⟩:∃x,X[k]? =some x:=⟨_,List.getElem?_eq_getElem (by rw[l.o];exact j)⟩
    obtain⟨c,i⟩:∃x,b[k]? =some x:=⟨_,List.getElem?_eq_getElem j⟩
    have a1:=jh ((O.o k m c d i).below t.o)
    have f:=cat_succ b k c i
    have n:=cat_part b (k+1)
    rw[f,q105]at n
    have A:=jh f
    have c0:wr.cell? ⟨r,off+k,none⟩=some m:=by
     have h:=q k (by rw[l.o];exact j)
     rw[d]at h
     rw[←h]
     exact t.o.cell (p:=⟨r,off+k,none⟩) S
    have T:Hid ((b.take k).flatten.length+(c.map bval).length≤1099511627776):=jh (by rw[q100];have:=y.o;omega)
    clear q d i f n
    go_wp2_with (at_builtin;refine zad rfl _ _ 24 rfl w.heap.size 5 i0 (.int .u8 0) 1 q104 a2.o Z.o a6.o a4.o rfl _ _ _ rfl s.o rfl a1.o (zac _) (by have:=T.o;unfold maxLen;omega) (by have:=T.o;omega) HS.o ?_;intro v3 w3 P a0)
    go_roundw
    case rel=>
     refine⟨k+1,by omega,by go_num,?_,zbf t.o s.o (q101 _) a0⟩
     rw[A.o,q110,q105]
     rw[q100]at P
     exact P
    case measure=>simp[intOf];omega
   have a3:(b.length:Int)≤(k:Int):=by omega
   obtain rfl:k=b.length:=by omega
   rw[cat_all]at s
   go_wp2_with fail
   go_ret
   exact⟨_,rfl,s.o,t.o⟩
theorem room_any {y:Value} {bl:List UInt8}(r:Nat)(w:World)(l:Row1 w y (bl.map bval))(K:bl.length+r≤1099511627776):
  Calls Tryz.prog 58 #[y,.int .i64 r] w fun e i=>∃v,e=.returned v∧i.ownsRow w.heap.size 5 1 v bl.length (bl.map bval)∧Below w.heap.size w i:=by
 obtain⟨x,t,j,m,q⟩:=info_parts Tryz.info5
 have h:=l
 obtain⟨a,J,rfl,h1,h2,D,G⟩:=l
 rw[q100]at h1 h⊢
 unfold maxLen at h2
 clear D G
 have L:(0:Int)≤(r:Int):=Int.natCast_nonneg _
 obtain⟨I,E,p,f⟩:=run_make_own (P:=Tryz.prog) w w.heap.size 24 5 x (.int .u8 0) 1 q104 t j m .i64 .i64 (bl.length+r) (by rw[q];omega) (by unfold maxLen;omega) (q101 _)
 rw[show ((bl.length+r:Nat):Int)=(bl.length:Int)+(r:Int)from by omega]at E
 have B:=jh (h.grown f (fun k F=>by cases F))
 obtain⟨s,b⟩:=jq2 p f
 have d:Hid ((bl.map bval).length=bl.length):=jh (by simp)
 clear p f h
 go_enter Tryz.func58,Tryz.ntmps58
 go_wp2_with (at_builtin;refine zad rfl _ _ 24 rfl w.heap.size 5 x (.int .u8 0) 1 q104 t j m q rfl _ 0 [] rfl s.o rfl B.o (zac _) (by rw[d.o];unfold maxLen;omega) (by rw[d.o];omega) b.o.size ?_;intro H C c u)
 have n:Below w.heap.size w C:=((Below.refl _ _).grown b.o (q101 _) (fun r g=>by cases g)).grown u b.o.size (fun r g=>(s.o.lt r g).1)
 rw[q115,d.o,q117]at c
 obtain⟨z,A⟩:=jq2 c n
 clear c u n
 go_wp2_with fail
 go_ret
 exact⟨_,rfl,z.o,A.o⟩
theorem appnum_any(base:Nat)(R:Value)(m:Nat)(J:List Value)(n:Int)(w:World)(B:w.ownsRow base 5 1 R m J)(c:base≤w.heap.size)(hm:m≤1099511627776):
  Calls Tryz.prog 59 #[R,.int .i64 n] w fun e z=>∃v,e=.returned v∧z.ownsRow base 5 1 v (m+8) (J++(zbi n).map bval)∧Below base w z:=by
 obtain⟨k,i,f,g,h⟩:=info_parts Tryz.info5
 obtain⟨a,b⟩:=jq2 B (Below.refl base w)
 have j:=c
 clear B
 go_enter Tryz.func59,Tryz.ntmps59
 go_wp2_with fail
 refine wp_loop_rounds 9 ?_
 rw[rounds_succ]
 go_wp2_with (at_builtin;refine zad rfl _ _ 24 rfl base 5 k (.int .u8 0) 1 q104 i f g h rfl _ (m+0) _ rfl (a.o.alloc _) rfl (Row1.made _ _ _ _ 1 _ rfl rfl rfl (by unfold maxLen;omega)) (by simp[Value.oneCell']) (by unfold maxLen;simp;omega) (by simp;omega) (by simp;omega) ?_;intro V w1 N Q)
 have s:=(b.o.alloc c _).grown Q (by simp;omega) (fun r d=>(a.o.lt r d).1)
 have c:=q119 j s.size
 clear a b
 obtain⟨a,b⟩:=jq2 N s
 clear N s Q
 rw[rounds_succ]
 go_wp2_with (at_builtin;refine zad rfl _ _ 24 rfl base 5 k (.int .u8 0) 1 q104 i f g h rfl _ (m+1) _ rfl (a.o.alloc _) rfl (Row1.made _ _ _ _ 1 _ rfl rfl rfl (by unfold maxLen;omega)) (by simp[Value.oneCell']) (by unfold maxLen;simp;omega) (by simp;omega) (by simp;omega) ?_;intro Y w2 F L)
 have t:=(b.o.alloc c _).grown L (by simp;omega) (fun r d=>(a.o.lt r d).1)
 have c:=q119 j t.size
 clear a b
 obtain⟨a,b⟩:=jq2 F t
 clear F t L
 rw[rounds_succ]
 go_wp2_with (at_builtin;refine zad rfl _ _ 24 rfl base 5 k (.int .u8 0) 1 q104 i f g h rfl _ (m+2) _ rfl (a.o.alloc _) rfl (Row1.made _ _ _ _ 1 _ rfl rfl rfl (by unfold maxLen;omega)) (by simp[Value.oneCell']) (by unfold maxLen;simp;omega) (by simp;omega) (by simp;omega) ?_;intro v3 w3 H E)
 have u:=(b.o.alloc c _).grown E (by simp;omega) (fun r d=>(a.o.lt r d).1)
 have c:=q119 j u.size
 clear a b
 obtain⟨a,b⟩:=jq2 H u
 clear H u E
 rw[rounds_succ]
 go_wp2_with (at_builtin;refine zad rfl _ _ 24 rfl base 5 k (.int .u8 0) 1 q104 i f g h rfl _ (m+3) _ rfl (a.o.alloc _) rfl (Row1.made _ _ _ _ 1 _ rfl rfl rfl (by unfold maxLen;omega)) (by simp[Value.oneCell']) (by unfold maxLen;simp;omega) (by simp;omega) (by simp;omega) ?_;intro T Z O K)
 have x:=(b.o.alloc c _).grown K (by simp;omega) (fun r d=>(a.o.lt r d).1)
 have c:=q119 j x.size
 clear a b
 obtain⟨a,b⟩:=jq2 O x
 clear O x K
 rw[rounds_succ]
 go_wp2_with (at_builtin;refine zad rfl _ _ 24 rfl base 5 k (.int .u8 0) 1 q104 i f g h rfl _ (m+4) _ rfl (a.o.alloc _) rfl (Row1.made _ _ _ _ 1 _ rfl rfl rfl (by unfold maxLen;omega)) (by simp[Value.oneCell']) (by unfold maxLen;simp;omega) (by simp;omega) (by simp;omega) ?_;intro U w5 D I)
 have l:=(b.o.alloc c _).grown I (by simp;omega) (fun r d=>(a.o.lt r d).1)
 have c:=q119 j l.size
 clear a b
 obtain⟨a,b⟩:=jq2 D l
 clear D l I
 rw[rounds_succ]
 go_wp2_with (at_builtin;refine zad rfl _ _ 24 rfl base 5 k (.int .u8 0) 1 q104 i f g h rfl _ (m+5) _ rfl (a.o.alloc _) rfl (Row1.made _ _ _ _ 1 _ rfl rfl rfl (by unfold maxLen;omega)) (by simp[Value.oneCell']) (by unfold maxLen;simp;omega) (by simp;omega) (by simp;omega) ?_;intro v6 w6 A G)
 have q:=(b.o.alloc c _).grown G (by simp;omega) (fun r d=>(a.o.lt r d).1)
 have c:=q119 j q.size
 clear a b
 obtain⟨a,b⟩:=jq2 A q
 clear A q G
 rw[rounds_succ]
 go_wp2_with (at_builtin;refine zad rfl _ _ 24 rfl base 5 k (.int .u8 0) 1 q104 i f g h rfl _ (m+6) _ rfl (a.o.alloc _) rfl (Row1.made _ _ _ _ 1 _ rfl rfl rfl (by unfold maxLen;omega)) (by simp[Value.oneCell']) (by unfold maxLen;simp;omega) (by simp;omega) (by simp;omega) ?_;intro W w7 M C)
 have y:=(b.o.alloc c _).grown C (by simp;omega) (fun r d=>(a.o.lt r d).1)
 have c:=q119 j y.size
 clear a b
 obtain⟨a,b⟩:=jq2 M y
 clear M y C
 rw[rounds_succ]
 go_wp2_with (at_builtin;refine zad rfl _ _ 24 rfl base 5 k (.int .u8 0) 1 q104 i f g h rfl _ (m+7) _ rfl (a.o.alloc _) rfl (Row1.made _ _ _ _ 1 _ rfl rfl rfl (by unfold maxLen;omega)) (by simp[Value.oneCell']) (by unfold maxLen;simp;omega) (by simp;omega) (by simp;omega) ?_;intro X w8 S P)
 have p:=(b.o.alloc c _).grown P (by simp;omega) (fun r d=>(a.o.lt r d).1)
 have c:=q119 j p.size
 clear a b
 obtain⟨a,b⟩:=jq2 S p
 clear S p P
 rw[rounds_succ]
 go_wp2_with fail
 go_ret
 refine⟨_,rfl,?_,b.o⟩
 rw[be8_cells]
 simpa using a.o
theorem pint_loop(B:Value)(bl:List UInt8)(b off h n:Nat)(ns:List Int)(w:World)(l:Row1 w B (bl.map bval))(c:ns.length=n)(R:0<n)(Z:n≤h)(N:h≤maxLen)(P:b<w.heap.size)
  (r:∀i,i<ns.length→w.cell? ⟨b,off+i,none⟩=some (.int .i64 (ns.getD i 0))) (T:bl.length+8*n≤1099511627776):
  Calls Tryz.prog 27 #[B,.slice (some ⟨b,off,none⟩) n h] w fun e j=>∃v,e=.returned v∧j.ownsRow w.heap.size 5 1 v (bl.length+8*n) ((bl++be8s ns).map bval)∧Below w.heap.size w j:=by
 unfold maxLen at N
 obtain⟨H,A⟩:=jq2 r c
 have g:=room_any (8*n) w l (by omega)
 rw[show ((8*n:Nat):Int)=8*(n:Int)from by omega]at g
 have J:=jh g
 clear r c l g
 go_enter Tryz.func27,Tryz.ntmps27
 go_wp2_with fail
 refine J.o.mono ?_
 rintro e V ⟨Q,rfl,y,m⟩
 obtain⟨K,D⟩:=jq2 y m
 clear y m
 go_wp2_with fail
 go_loopw [5,15] (fun v i wr=>∃k:Nat,k≤n∧i=.int .i64 k∧wr.ownsRow w.heap.size 5 1 v (bl.length+8*k) ((bl++be8s (ns.take k)).map bval)∧Below w.heap.size w wr) (fun _ i _=>n - (intOf i).toNat)
 case atStart=>exact⟨0,q145 _,rfl,by simpa[be8s]using K.o,D.o⟩
 case round=>
  obtain⟨k,Y,rfl,d,a⟩:=hrel
  by_cases X:k<n
  ·have c:=A.o
   have c1:=a.cell (p:=⟨b,off+k,none⟩) P
   rw[H.o k (by omega)]at c1
   have S:(0:Int)≤(k:Int):=Int.natCast_nonneg _
   have U:(k:Int)<(n:Int):=by omega
   have z:be8s (ns.take (k+1))=be8s (ns.take k)++zbi (ns.getD k 0):=by
    rw[q143 (by omega),be8s_snoc]
    simp[List.getD,show k<ns.length from by omega]
   generalize ns.getD k 0=x at*
   have F:=jh (appnum_any w.heap.size _ _ _ x wr d a.size (by omega))
   obtain⟨f,G⟩:=jq2 a z
   clear c d a z
   go_wp2_with fail
   refine F.o.mono ?_
   rintro e L ⟨E,rfl,q,t⟩
   have s:L.ownsRow w.heap.size 5 1 E (bl.length+8*(k+1)) ((bl++be8s (ns.take (k+1))).map bval):=by
    rw[G.o,←q109,q110]
    exact q
   have u:=f.o.trans t
   clear q t
   obtain⟨M,I⟩:=jq2 s u
   clear s u
   go_wp2_with fail
   go_roundw
   case rel=>exact⟨k+1,by omega,by go_num,M.o,I.o⟩
   case measure=>simp[intOf];omega
  have O:k=n:=by omega
  subst O
  have c:=A.o
  rw[q108 (by omega)]at d
  obtain⟨C,f⟩:=jq2 d a
  clear d a c
  go_wp2_with fail
  go_ret
  exact⟨_,rfl,C.o,f.o⟩
theorem pint_none(g:Value)(bl:List UInt8)(a:Option Addr)(h:Nat)(w:World)(d:Row1 w g (bl.map bval))(m:bl.length≤1099511627776)(j:h≤maxLen):
  Calls Tryz.prog 27 #[g,.slice a 0 h] w fun e b=>∃v,e=.returned v∧b.ownsRow w.heap.size 5 1 v bl.length (bl.map bval)∧Below w.heap.size w b:=by
 unfold maxLen at j
 have i:=jh (room_any 0 w d (by omega))
 clear d
 go_enter Tryz.func27,Tryz.ntmps27
 go_wp2_with fail
 refine i.o.mono ?_
 rintro e p ⟨n,rfl,c,f⟩
 obtain⟨k,l⟩:=jq2 c f
 clear c f
 go_wp2_with fail
 refine wp_loop_rounds 1 ?_
 rw[rounds_succ]
 go_wp2_with fail
 go_ret
 exact⟨_,rfl,k.o,l.o⟩
theorem pint_own {c g:Value} {bl:List UInt8} {ns:List Int}(w:World)(f:Row1 w c (bl.map bval))(k:Row1 w g (ns.map (.int .i64)))(i:bl.length+8*ns.length≤1099511627776):
  Calls Tryz.prog 27 #[c,g] w fun e d=>∃v,e=.returned v∧d.ownsRow w.heap.size 5 1 v (bl.length+8*ns.length) ((bl++be8s ns).map bval)∧Below w.heap.size w d:=by
 obtain⟨a,h,rfl,h1,h2,n,m⟩:=k
 rw[q100]at h1⊢
 by_cases h0:ns=[]
 ·subst h0
  have:=pint_none c bl a h w f (by omega) h2
  simpa[be8s]using this
 obtain⟨b,off,rfl,l,j⟩:=m (by simpa using h0)
 exact pint_loop c bl b off h ns.length ns w f rfl (List.length_pos_iff.2 h0) h1 h2 l (pck_row_nums j) i
theorem mBody_any(m:Man)(wv:Value)(w:World)(a:m.Arr)(hw:Row1 w wv (m.wr.map bval)):
  Calls Tryz.prog 11 #[.agg (manC m wv).toArray] w fun e C=>∃x,e=.returned (.tuple #[x,.int .i64 m.err])∧C.ownsRow w.heap.size 5 1 x m.bodL.length (m.bodL.map bval)∧Below w.heap.size w C:=by
 obtain⟨i0,hi,ac,ae,ak⟩:=info_parts Tryz.info5
 obtain⟨ij,ag,ah,ap⟩:=info_two (P:=Tryz.prog) (t:=3) (z:=.int .i64 0) (n:=1) (by kernel_rfl)
 obtain⟨am,an,a8,av,a7,ab⟩:=jq6 hi ac ae ak ag ah
 have V:=jh ap
 clear hi ac ae ak ag ah ap
 obtain⟨iq,ad,ai,ao⟩:=info_two (P:=Tryz.prog) (t:=24) (z:=.slice none 0 0) (n:=1) (by kernel_rfl)
 obtain⟨b0,ax,aj⟩:=jq3 ad ai ao
 clear ad ai ao
 obtain⟨A,J,HB⟩:=jq3 a hw (And.intro (Blk.made w (manC m wv) 30) (Ext.alloc w (.cells (manC m wv).toArray 30)))
 go_enter Tryz.func11,Tryz.ntmps11
 go_upto_region 1 with(fail)
 obtain⟨h0,hE⟩:=HB.o
 change Code.wp _ _ _ _ (w.alloc (.cells (manC m wv).toArray 30))
 generalize w.alloc (.cells (manC m wv).toArray 30)=wa at*
 obtain⟨M,hM⟩:=nxq w.heap.size
 rw[←hM]at h0⊢
 have E:=jh h0
 have l:Hid (Ext w wa):=jh hE
 have HO:Hid (w.heap.size=M):=jh (by omega)
 clear HB hE h0 hM
 obtain⟨az,af⟩:=jq2 (zcj a wv) (mval_any m wv wa A.o (J.o.below l.o))
 go_wp2_with (refine wpList_load_mid rfl _ _ rfl M 0 rfl _ _ E.o.range q118 rfl az.o ?_)
 refine af.o.mono ?_
 rintro e k ⟨rfl,hb⟩
 have E:=xxb E hb
 have l:=xxt l hb
 have J:Hid (Row1 k wv (m.wr.map bval)):=jh (J.o.below l.o)
 clear hb af a hw
 cases hok:m.ok with
 |false=>
  have D:=jh (Man.pac_no hok)
  go_wp2_with fail
  refine bodyPost_ret (zdk rfl _ _) rfl ?_
  exact⟨_,by rw[D.o.1];rfl,by rw[D.o.2.2];exact World.ownsRow_nil _ _ _ _,l.o⟩
 |true=>
  obtain⟨D,a9⟩:=jq2 (Man.yes hok) (Man.body_length A.o (Man.ok_all hok).2.2.2.1)
  clear hok
  obtain⟨ver,blk,root,wr,cid,R,N,sig⟩:=m
  have W:=E.o.lt
  obtain⟨p0,p1,p2,p3,p4,_,p6,p7,_⟩:=zed E.o A.o
  have a2:=jh (row_rng (n:=32) p2 W (by rw[q100,A.o.root]) (by unfold maxLen;omega))
  have a1:=jh (row_rng (n:=32) p6 W (by rw[q100,A.o.ckey]) (by unfold maxLen;omega))
  have a3:=jh (row_rng (n:=64) p7 W (by rw[q100,A.o.csig]) (by unfold maxLen;omega))
  dsimp only at*
  obtain⟨a6,a0,T,aa⟩:=jq4 p0 p1 p3 p4
  have Z:=J
  clear p0 p1 p2 p3 p4 p6 p7 W
  go_upto_region 3 with(fail)
  have L:Ext k k.drew:=Ext.drew _
  refine wp_region_held_drew (S:=fun C=>Ext k C) (by kernel_rfl) L (fun f=>?_)
  refine tke 2 (.pointer (some ⟨M,0,none⟩)) rfl (zaz (.pointer (some ⟨M,0,none⟩)) (by rfl) (fun w _=>by go_simp)) f ?_
  simp only[nm]
  refine tke 3 (.int .i64 ver) rfl (zaz (.int .i64 ver) (by rfl) (fun w h=>by have hc:=(Below.cell h (q146 k _ a6.o)).trans a6.o;go_simp)) f ?_
  simp only[nm]
  refine tke 4 (.pointer (some ⟨M,1,none⟩)) rfl (zaz (.pointer (some ⟨M,1,none⟩)) (by rfl) (fun w _=>by go_simp)) f ?_
  simp only[nm]
  refine tke 5 (.int .i64 blk) rfl (zaz (.int .i64 blk) (by rfl) (fun w h=>by have hc:=(Below.cell h (q146 k _ a0.o)).trans a0.o;go_simp)) f ?_
  simp only[nm]
  refine tke 8 (.pointer (some ⟨M,35,none⟩)) rfl (zaz (.pointer (some ⟨M,35,none⟩)) (by rfl) (fun w _=>by go_simp)) f ?_
  simp only[nm]
  refine tke 9 (.pointer (some ⟨M,35,none⟩)) rfl (zaz (.pointer (some ⟨M,35,none⟩)) (by rfl) (fun w _=>by go_simp)) f ?_
  simp only[nm]
  refine tke 10 (.int .i64 cid) rfl (zaz (.int .i64 cid) (by rfl) (fun w h=>by have hc:=(Below.cell h (q146 k _ aa.o)).trans aa.o;go_simp)) f ?_
  simp only[nm]
  refine wpAnyH_rel (B:=k) [(0,some 9,.own k.heap.size 5 4 (([80,67,77,49]:List UInt8).map bval) 1),(1,some 10,.row (([80,67,77,49]:List UInt8).map bval)),(6,some 15,.row (([ver,blk]:List Int).map (.int .i64))),(7,some 16,.row ((([80,67,77,49]:List UInt8)++be8s [ver,blk]).map bval)),(11,some 20,.row (([cid]:List Int).map (.int .i64))),(12,some 21,.row ((be8s [cid]).map bval)),(13,some 4,.row ((([80,67,77,49]:List UInt8)++be8s [ver,blk]).map bval)),(14,some 5,.row ((be8s [cid]).map bval))] L (fun u=>?_) (fun u wc O q=>?_)
  ·simp only[putsR,Act.put,List.setIfInBounds_toArray,q150,q152]
   refine RelOb.cons rfl rfl (fun c K i j d=>?_) ?_
   ·exact ob_build 24 5 4 _ (([80,67,77,49]:List UInt8).map bval) i0 (.int .u8 0) q104 am.o an.o a8.o (fun v m b r o=>d.o _ _ (Or.inl b) ⟨r,fun _=>zbv o i.size⟩) (by rw[a8.o];kernel_rfl) (by rfl) rfl rfl rfl (by decide)
   refine RelOb.cons rfl rfl (fun c K i j d=>?_) ?_
   ·have h0:=j 0 (by kernel_rfl)
    have G:Row1 c (u 0) (([80,67,77,49]:List UInt8).map bval):=h0.1
    have o0:c.ownsRow k.heap.size 5 1 (u 0) 4 (([80,67,77,49]:List UInt8).map bval):=h0.2 rfl
    exact ob_mark _ 24 5 q104 q113 o0 (by decide) (fun g m hg ar hr=>d.o _ _ (Or.inr ⟨zab i hg ar,hr,rfl⟩) ⟨hr _ _ G,fun h=>by cases h⟩) (by rfl) rfl rfl rfl
   refine RelOb.cons rfl rfl (fun c K i j d=>?_) ?_
   ·exact ob_build 63 3 2 _ (([ver,blk]:List Int).map (.int .i64)) ij (.int .i64 0) Tryz.underlying63 a7.o ab.o V.o (fun v m b r o=>d.o _ _ (Or.inl b) ⟨r,fun h=>by cases h⟩) (by rw[V.o];kernel_rfl) (by rfl) rfl rfl rfl (by decide)
   refine RelOb.cons rfl rfl (fun c K i j d=>?_) ?_
   ·have r1:Row1 c (u 6) (([ver,blk]:List Int).map (.int .i64)):=(j 6 (by kernel_rfl)).1
    have G:Row1 c (u 1) ((([80,67,77,49]:List UInt8)).map bval):=(j 1 (by kernel_rfl)).1
    go_simp
    refine(pint_own (bl:=([80,67,77,49]:List UInt8)) (ns:=[ver,blk]) c G r1 (by simp)).mono ?_
    rintro e m ⟨x,rfl,o,b⟩
    exact d.o _ _ (Or.inl b) ⟨Row1.of_own o,fun h=>by cases h⟩
   refine RelOb.cons rfl rfl (fun c K i j d=>?_) ?_
   ·exact ob_build 63 3 1 _ (([cid]:List Int).map (.int .i64)) ij (.int .i64 0) Tryz.underlying63 a7.o ab.o V.o (fun v m b r o=>d.o _ _ (Or.inl b) ⟨r,fun h=>by cases h⟩) (by rw[V.o];kernel_rfl) (by rfl) rfl rfl rfl (by decide)
   refine RelOb.cons rfl rfl (fun c K i j d=>?_) ?_
   ·have r1:Row1 c (u 11) (([cid]:List Int).map (.int .i64)):=(j 11 (by kernel_rfl)).1
    have G:Row1 c (.slice none 0 0) (([]:List UInt8).map bval):=Row1.nil _
    go_simp
    refine(pint_own (bl:=[]) (ns:=[cid]) c G r1 (by simp)).mono ?_
    rintro e m ⟨x,rfl,o,b⟩
    exact d.o _ _ (Or.inl b) ⟨(show Row1 m x ((be8s [cid]).map bval)from by simpa using Row1.of_own o),fun h=>by cases h⟩
   refine RelOb.cons rfl rfl (fun c K i j d=>?_) ?_
   ·have r:Row1 c (u 7) ((([80,67,77,49]:List UInt8)++be8s [ver,blk]).map bval):=(j 7 (by kernel_rfl)).1
    exact ob_assign _ (u 7) (d.o _ _ (Or.inl (Ext.refl _)) ⟨r,fun h=>by cases h⟩) (by rfl) rfl rfl rfl
   refine RelOb.cons rfl rfl (fun c K i j d=>?_) ?_
   ·have r:Row1 c (u 12) ((be8s [cid]).map bval):=(j 12 (by kernel_rfl)).1
    exact ob_assign _ (u 12) (d.o _ _ (Or.inl (Ext.refl _)) ⟨r,fun h=>by cases h⟩) (by rfl) rfl rfl rfl
   exact RelOb.nil
  simp only[putsR,Act.put,List.setIfInBounds_toArray,q150,q152]
  have aq:Hid (Row1 wc (u 13) ((([80,67,77,49]:List UInt8)++be8s [ver,blk]).map bval)):=jh (q 13).1
  have al:Hid (Row1 wc (u 14) ((be8s [cid]).map bval)):=jh (q 14).1
  have p:=jh O
  clear q O
  generalize u 13=x4 at*
  generalize u 14=x5 at*
  obtain⟨X,U,Y,rfl⟩:=row_form aq.o
  obtain⟨I,H,Q,rfl⟩:=row_form al.o
  obtain⟨s,y,F,rfl⟩:=row_form Z.o
  have T:Hid (wc.cell? ⟨M,34,none⟩=some (.slice s y F)):=jh ((Below.cell p.o (q146 k _ T.o)).trans T.o)
  obtain⟨a2,a1,a3,Z⟩:=jq4 (a2.o.below p.o) (a1.o.below p.o) (a3.o.below p.o) (Z.o.below p.o)
  have l:=xxt l p.o
  clear a6 a0 aa p E J am an a8 av a7 ab V
  go_upto_region 4 with(fail)
  have L:Ext wc wc.drew:=Ext.drew _
  refine wp_region_held_drew (S:=fun C=>Ext wc C) (by kernel_rfl) L (fun f=>?_)
  refine tke 0 (.slice X U Y) rfl (zbe _ (.slice X U Y) (by rfl) rfl rfl) f ?_
  simp only[nm]
  refine tke 1 (.pointer (some ⟨M,2,none⟩)) rfl (zaz (.pointer (some ⟨M,2,none⟩)) (by rfl) (fun w _=>by go_simp)) f ?_
  simp only[nm]
  refine tke 2 (.slice (some ⟨M,2,none⟩) 32 32) rfl (zbp _ _ _ _ (.pointer (some ⟨M,2,none⟩)) (.slice (some ⟨M,2,none⟩) 32 32) none none (by rfl) rfl rfl rfl rfl (fun w=>zdb q102 q111 (by omega) _ _ w)) f ?_
  simp only[nm]
  refine tke 3 (.pointer (some ⟨M,34,none⟩)) rfl (zaz (.pointer (some ⟨M,34,none⟩)) (by rfl) (fun w _=>by go_simp)) f ?_
  simp only[nm]
  refine tke 4 (.slice s y F) rfl (zaz (.slice s y F) (by rfl) (fun w h=>by have hc:=(Below.cell h (q146 wc _ T.o)).trans T.o;go_simp)) f ?_
  simp only[nm]
  refine tke 5 (.slice I H Q) rfl (zbe _ (.slice I H Q) (by rfl) rfl rfl) f ?_
  simp only[nm]
  refine tke 6 (.pointer (some ⟨M,35,none⟩)) rfl (zaz (.pointer (some ⟨M,35,none⟩)) (by rfl) (fun w _=>by go_simp)) f ?_
  simp only[nm]
  refine tke 7 (.pointer (some ⟨M,36,none⟩)) rfl (zaz (.pointer (some ⟨M,36,none⟩)) (by rfl) (fun w _=>by go_simp)) f ?_
  simp only[nm]
  refine tke 8 (.slice (some ⟨M,36,none⟩) 32 32) rfl (zbp _ _ _ _ (.pointer (some ⟨M,36,none⟩)) (.slice (some ⟨M,36,none⟩) 32 32) none none (by rfl) rfl rfl rfl rfl (fun w=>zdb q102 q111 (by omega) _ _ w)) f ?_
  simp only[nm]
  refine tke 9 (.pointer (some ⟨M,35,none⟩)) rfl (zaz (.pointer (some ⟨M,35,none⟩)) (by rfl) (fun w _=>by go_simp)) f ?_
  simp only[nm]
  refine tke 10 (.pointer (some ⟨M,68,none⟩)) rfl (zaz (.pointer (some ⟨M,68,none⟩)) (by rfl) (fun w _=>by go_simp)) f ?_
  simp only[nm]
  refine tke 11 (.slice (some ⟨M,68,none⟩) 64 64) rfl (zbp _ _ _ _ (.pointer (some ⟨M,68,none⟩)) (.slice (some ⟨M,68,none⟩) 64 64) none none (by rfl) rfl rfl rfl rfl (fun w=>zdb q126 q111 (by omega) _ _ w)) f ?_
  simp only[nm]
  refine wpAnyH_rel (B:=wc) [(12,some 34,.row [.slice X U Y,.slice (some ⟨M,2,none⟩) 32 32,.slice s y F,.slice I H Q,.slice (some ⟨M,36,none⟩) 32 32,.slice (some ⟨M,68,none⟩) 64 64]),(13,some 35,.own wc.heap.size 5 236 ((Man.mk ver blk root wr cid R N sig).body.map bval) 14),(14,some 2,.own wc.heap.size 5 236 ((Man.mk ver blk root wr cid R N sig).body.map bval) 16),(15,some 3,.is (.int .i64 0))] L (fun u=>?_) (fun u wd O q=>?_)
  ·simp only[putsR,Act.put,List.setIfInBounds_toArray,q150,q152]
   refine RelOb.cons rfl rfl (fun c K i j d=>?_) ?_
   ·exact ob_build 55 24 6 _ [.slice X U Y,.slice (some ⟨M,2,none⟩) 32 32,.slice s y F,.slice I H Q,.slice (some ⟨M,36,none⟩) 32 32,.slice (some ⟨M,68,none⟩) 64 64] iq (.slice none 0 0) q169 b0.o ax.o aj.o (fun v m b r o=>d.o _ _ (Or.inl b) ⟨r,fun h=>by cases h⟩) (by rw[aj.o];kernel_rfl) (by rfl) rfl rfl rfl (by decide)
   refine RelOb.cons rfl rfl (fun c K i j d=>?_) ?_
   ·have r:Row1 c (u 12) [.slice X U Y,.slice (some ⟨M,2,none⟩) 32 32,.slice s y F,.slice I H Q,.slice (some ⟨M,36,none⟩) 32 32,.slice (some ⟨M,68,none⟩) 64 64]:=(j 12 (by kernel_rfl)).1
    go_simp
    refine(stdConcat_any _ [([80,67,77,49]:List UInt8)++be8s [ver,blk],root,wr,be8s [cid],R,N] c (rowB6 r (aq.o.below i) (a2.o.below i) (Z.o.below i) (al.o.below i) (a1.o.below i) (a3.o.below i)) (by rw[body_flat,a9.o];decide)).mono ?_
    rintro e m ⟨x,rfl,o,b⟩
    have o2:=zbv (zcp o (by rw[body_flat,a9.o]) (by rw[body_flat (sig:=sig)])) i.size
    exact d.o _ _ (Or.inl b) ⟨Row1.of_own o2,fun _=>o2⟩
   refine RelOb.cons rfl rfl (fun c K i j d=>?_) ?_
   ·have h0:=j 13 (by kernel_rfl)
    have r:Row1 c (u 13) ((Man.mk ver blk root wr cid R N sig).body.map bval):=h0.1
    exact ob_assign _ (u 13) (d.o _ _ (Or.inl (Ext.refl _)) ⟨r,fun _=>h0.2 rfl⟩) (by rfl) rfl rfl rfl
   refine RelOb.cons rfl rfl (fun c K i j d=>?_) ?_
   ·exact ob_assign _ (.int .i64 0) (d.o _ _ (Or.inl (Ext.refl _)) ⟨rfl,fun h=>by cases h⟩) (by rfl) rfl rfl rfl
   exact RelOb.nil
  simp only[putsR,Act.put,List.setIfInBounds_toArray,q150,q152]
  have HO:Hid (wd.ownsRow wc.heap.size 5 1 (u 14) 236 ((Man.mk ver blk root wr cid R N sig).body.map bval)):=jh ((q 14).2 16 rfl (by decide))
  have ay:u 15=.int .i64 0:=(q 15).1
  have au:=jh O
  clear q O
  generalize u 14=x at*
  have h3:u 15=.int .i64 0:=ay
  rw[h3]
  go_wp2_with fail
  refine bodyPost_ret (zdk rfl _ _) rfl ?_
  exact⟨x,by rw[D.o.1];rfl,zcp (zbv HO.o l.o.size) (by rw[D.o.2,a9.o]) (by rw[D.o.2]),l.o.trans au.o⟩
theorem mPack_any(m:Man)(wv:Value)(w:World)(a:m.Arr)(v:Row1 w wv (m.wr.map bval)):
  Calls Tryz.prog 9 #[.agg (manC m wv).toArray] w fun e j=>∃x,e=.returned (.tuple #[x,.int .i64 m.err])∧j.ownsRow w.heap.size 5 1 x m.pacL.length (m.pacL.map bval)∧Below w.heap.size w j:=by
 obtain⟨K,y,k,s,u⟩:=info_parts Tryz.info5
 obtain⟨F,C,L,G⟩:=jq4 y k s u
 clear y k s u
 obtain⟨b,q,r⟩:=jq3 a v (And.intro (Blk.made w (manC m wv) 30) (Ext.alloc w (.cells (manC m wv).toArray 30)))
 go_enter Tryz.func9,Tryz.ntmps9
 go_upto_region 1 with(fail)
 obtain⟨h0,p⟩:=r.o
 change Code.wp _ _ _ _ (w.alloc (.cells (manC m wv).toArray 30))
 generalize w.alloc (.cells (manC m wv).toArray 30)=z at*
 obtain⟨M,A⟩:=nxq w.heap.size
 rw[←A]at h0⊢
 have g:=jh h0
 have c:Hid (Ext w z):=jh p
 have N:Hid (w.heap.size=M):=jh (by omega)
 clear r p h0 A
 obtain⟨D,t⟩:=jq2 (zcj a wv) (mBody_any m wv z b.o (q.o.below c.o))
 go_wp2_with (refine wpList_load_mid rfl _ _ rfl M 0 rfl _ _ g.o.range q118 rfl D.o ?_)
 refine t.o.mono ?_
 rintro e R ⟨x,rfl,l,h⟩
 have i:=jh (zbv l c.o.size)
 have g:=xxb g h
 have c:=xxt c h
 clear l h t a v q
 cases hok:m.ok with
 |false=>
  have f:=jh (Man.pac_no hok)
  have d:=f.o.1
  rw[d]
  clear d
  go_wp2_with fail
  refine bodyPost_ret (zdk rfl _ _) rfl ?_
  exact⟨_,by rw[f.o.1];rfl,by rw[f.o.2.1];exact World.ownsRow_nil _ _ _ _,c.o⟩
 |true=>
  have f:=jh (Man.pac_yes hok)
  obtain⟨d,B⟩:=Man.yes hok
  have J:=jh d
  rw[d]
  clear d
  rw[B,Man.body_length b.o (Man.ok_all hok).2.2.2.1]at i
  have H:=jh (row_rng (n:=64) (zed g.o b.o).2.2.2.2.2.2.2.2 g.o.lt (by rw[q100,b.o.sig]) (by unfold maxLen;omega))
  have hcut:=fun w=>zdb (P:=Tryz.prog) q126 q111 (by omega) M 132 w
  go_wp2_with (at_builtin;refine zad rfl _ _ 24 rfl w.heap.size 5 K (.int .u8 0) 1 q104 F.o C.o L.o G.o rfl x 236 _ rfl i.o rfl H.o (zac _) (by rw[q100,b.o.sig];unfold maxLen;omega) (by rw[q100,b.o.sig];omega) c.o.size ?_;intro O Q E I)
  refine bodyPost_ret (zdk rfl _ _) rfl ?_
  exact⟨_,by rw[J.o];rfl,zcp E (by rw[f.o,Man.pack_length b.o (Man.ok_all hok).2.2.2.1,q100,b.o.sig]) (by rw[f.o];unfold Man.pack;rw[q110]),zbf c.o i.o (q101 _) I⟩
theorem manPacks_any(m:Man)(wv:Value)(w:World)(a:m.Arr)(u:Row1 w wv (m.wr.map bval))(L:GI w∧GlobR w):
  Calls Tryz.prog 3 #[.agg (manC m wv).toArray] w fun e q=>e=.returned (.bool true)∧Below w.heap.size w q:=by
 obtain⟨ad,cp,N,_⟩:=id u
 rw[q100]at N
 subst N
 obtain⟨h,l,A,k⟩:=jq4 a u L (zcj a (.slice ad m.wr.length cp))
 clear a u L
 have F:=jh (And.intro (Blk.made w (manC m (.slice ad m.wr.length cp)) 30) (Ext.alloc w (.cells (manC m (.slice ad m.wr.length cp)).toArray 30)))
 go_enter Tryz.func3,Tryz.ntmps3
 go_upto_region 1 with(fail)
 obtain⟨h0,C⟩:=F.o
 change Code.wp _ _ _ _ (w.alloc (.cells (manC m (.slice ad m.wr.length cp)).toArray 30))
 generalize w.alloc (.cells (manC m (.slice ad m.wr.length cp)).toArray 30)=R at*
 obtain⟨M,Y⟩:=nxq w.heap.size
 rw[←Y]at h0⊢
 have d:=jh h0
 have c:Hid (Ext w R):=jh C
 have HO:Hid (w.heap.size=M):=jh (by omega)
 clear F C h0 Y
 have J:=jh (alive_any17 R (A.o.1.ext c.o))
 go_wp2_with fail
 refine J.o.mono ?_
 rintro e T ⟨rfl,b⟩
 have d:=xxb d b
 have c:Hid (Ext w T):=xxt c b
 clear b J
 have p3:=(zed d.o h.o).2.2.2.1
 by_cases hl:300<m.wr.length
 ·have G:decide ((300:Int)<(m.wr.length:Int))=true:=decide_eq_true (by omega)
  go_wp2_with fail
  go_ret
  exact⟨rfl,c.o⟩
 have G:decide ((300:Int)<(m.wr.length:Int))=false:=decide_eq_false (by omega)
 go_upto_region 4 with(fail)
 clear p3 hl G
 generalize a9:Value.slice ad m.wr.length cp=wv at*
 go_wp2_with (refine wpList_load_mid rfl _ _ rfl M 0 rfl _ _ d.o.range q118 rfl k.o ?_)
 refine(mPack_any m wv T h.o (l.o.below c.o)).mono ?_
 rintro e w2 ⟨x0,rfl,g,b⟩
 have f:=jh (Row1.of_own g)
 have d:=xxb d b
 have c:=xxt c b
 clear g b
 go_wp2_with (refine wpList_load_mid rfl _ _ rfl M 0 rfl _ _ d.o.range q118 rfl k.o ?_)
 refine(rPackManifest_any m wv w2 h.o (l.o.below c.o)).mono ?_
 rintro e w3 ⟨x1,rfl,g,b⟩
 obtain⟨i,f⟩:=jq2 (Row1.of_own g) (f.o.below b)
 have d:=xxb d b
 have c:=xxt c b
 clear g b
 go_wp2_with (refine wpList_load_mid rfl _ _ rfl M 0 rfl _ _ d.o.range q118 rfl k.o ?_)
 refine(mBody_any m wv w3 h.o (l.o.below c.o)).mono ?_
 rintro e w4 ⟨x2,rfl,g,b⟩
 obtain⟨r,f,i⟩:=jq3 (Row1.of_own g) (f.o.below b) (i.o.below b)
 have d:=xxb d b
 have c:=xxt c b
 clear g b
 go_wp2_with (refine wpList_load_mid rfl _ _ rfl M 0 rfl _ _ d.o.range q118 rfl k.o ?_)
 refine(rBody_any m wv w4 h.o (l.o.below c.o)).mono ?_
 rintro e x ⟨x3,rfl,g,b⟩
 obtain⟨K,f,i,r⟩:=jq4 (Row1.of_own g) (f.o.below b) (i.o.below b) (r.o.below b)
 have d:=xxb d b
 have c:=xxt c b
 clear g b
 have a5:=zco (P:=Tryz.prog) (v:=x0) 24 9 5 q104 q113 q147 f.o
 have a2:=zco (P:=Tryz.prog) (v:=x1) 24 9 5 q104 q113 q147 i.o
 have a4:=zco (P:=Tryz.prog) (v:=x2) 24 9 5 q104 q113 q147 r.o
 have a7:=zco (P:=Tryz.prog) (v:=x3) 24 9 5 q104 q113 q147 K.o
 generalize W:m.err=E at*
 have a1:=jh W
 clear W
 go_wp2_with fail
 refine(num17 E x).mono ?_
 rintro e q ⟨rfl,rfl⟩
 go_wp2_with fail
 refine(num17 E x).mono ?_
 rintro e q ⟨rfl,rfl⟩
 go_upto_region 10 with(fail)
 clear a5 a2 a4 a7
 cases hok:m.ok with
 |false=>
  have z:E=1:=a1.o.symm.trans (Man.pac_no hok).1
  subst z
  go_wp2_with fail
  go_ret
  exact⟨rfl,c.o⟩
 |true=>
  have z:E=0:=a1.o.symm.trans (Man.yes hok).1
  subst z
  obtain⟨s,O⟩:=jq2 (Man.pack_length h.o (Man.ok_all hok).2.2.2.1) (mread_is (manR_pack h.o hok))
  rw[Man.pac_yes hok]at f
  obtain⟨a0,c0,D,_⟩:=id f.o
  rw[q100,s.o]at D
  subst D
  have y:=jh (mRead_any m.pack (.slice a0 300 c0) x f.o (by rw[s.o];decide))
  rw[O.o.1,O.o.2]at y
  clear i r K hok
  go_wp2_with fail
  refine y.o.mono ?_
  rintro e t ⟨j,rfl,V,b⟩
  have p:=jh V
  have d:=xxb d b
  have f:=jh (f.o.below b)
  have c:=xxt c b
  clear V b y
  obtain⟨Q,S,X⟩:=jq3 (Blk.made t (manC manZ (.slice none 0 0)) 30) (Ext.alloc t (.cells (manC manZ (.slice none 0 0)).toArray 30)) (zcj h.o j)
  have Z:Hid ((manC m j).length=(manC manZ (.slice none 0 0)).length):=jh (by rw[zba h.o,zba zcx])
  have I:=jh (zda (m:=m) (row_cell p.o))
  go_upto_region 13 with(refine ssb t.heap.size (manC m j) Q.o Z.o X.o I.o ?_;intro w7 H U)
  have B:=jh H
  have n:=jh (zab S.o U (q101 _))
  have c:=xxt c n.o
  generalize t.heap.size=a3 at*
  clear H U Q S X Z I
  have p:=jh (p.o.below n.o)
  have d:=xxb d n.o
  obtain⟨f,a6⟩:=jq2 (f.o.below n.o) (zcj h.o j)
  clear n
  go_wp2_with fail
  refine(num17 0 w7).mono ?_
  rintro e q ⟨rfl,rfl⟩
  go_wp2_with (first|(refine zdi (by rfl) _ _ rfl a3 0 rfl _ _ B.o.range q118 a6.o ?_)|(refine zdi (by rfl) _ _ rfl M 0 rfl _ _ d.o.range q118 k.o ?_))
  refine(rSame_self m j wv w7 h.o p.o (l.o.below c.o)).mono ?_
  rintro e w8 ⟨rfl,b⟩
  have f:=jh (f.o.below b)
  have c:=xxt c b
  clear b B d p
  go_wp2_with fail
  refine(mName_any _ m.pack w8 f.o (by rw[s.o];decide) (A.o.2.ext c.o)).mono ?_
  rintro e w9 ⟨rfl,b⟩
  have f:=jh (f.o.below b)
  have c:=xxt c b
  clear b
  go_wp2_with fail
  refine(zdp _ m.pack w9 f.o (by rw[s.o];decide) (A.o.1.1.ext c.o)).mono ?_
  rintro e a8 ⟨rfl,b⟩
  have c:=xxt c b
  clear b
  go_wp2_with (first|(refine zdv (by rfl) .eql 23 _ _ _ _ _ _ (sha256 m.pack) (sha256 m.pack) true rfl (Or.inl ⟨rfl,decide_eq_true rfl⟩) q102 q113 zdq zcd zdn rfl rfl (zbc _) (zbc _) ?_))
  go_ret
  exact⟨rfl,c.o⟩
end Go.Proofs.YtgnfdonbholcdaaGreatDoor


