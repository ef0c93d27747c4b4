/- Lemmas. -/
import Derived.Test.YtgnfdonbholcdaaGreatDoorRows
import Derived.Test.YtgnfdonbholcdaaGreatDoorQz15
namespace Go.Proofs.YtgnfdonbholcdaaGreatDoor
set_option linter.unusedVariables false
set_option maxRecDepth 100000
set_option maxHeartbeats 32000000
set_option linter.unusedSimpArgs false
open Go.RowKit
section
section
variable {P:Program} {w w':World} {v:Value} {vs:List Value}
theorem Row1.drewN(h:Row1 w v vs)(n:Nat):Row1 (w.drewN n) v vs:=h
theorem step_append_row {g:Array Oper} {o:Oper} {a:Act} {K:Act→World→Prop} {Q:Exit→Act→World→Prop} {E:Prop}(p:o.guard=none)(s y:Operand)(t:TypeId)
  (j:o.op=.call { callee:=.builtin .append,args:=#[s,y],argTypes:=#[t,t] })
  (base:Nat) (e:TypeId) (i:TypeInfo) (z:Value) (c:Nat) (ht:P.underlying t=some (.slice e)) (D:P.info? e=some i) (G:i.zero=some z)
  (m:i.size=1) (l:i.bytes=c) (C:z.cells.size=1)
  (x:Value) (n:Nat) (d:List Value) (F:a.eval s=x) (H:w.ownsRow base e 1 x n d)
  (q:a.eval y=v) (I:Row1 w v vs) (h1:∀u∈vs,u.oneCell'=true)
  (A:n+vs.length≤maxLen) (k:(n+vs.length)*c≤140737488355328) (r:base≤w.heap.size)
  (h:∀f b,b.ownsRow base e 1 f (n+vs.length) (d++vs)→w.grownBy b x.ownBlock→K (a.put o.dst f) b):
  if Region.wanted o (yielded g a.tmps)=true then Oper.wp P o a w K Q else E:=by
 have B:Region.wanted o (yielded g a.tmps)=true:=by simp[Region.wanted,p]
 rw[if_pos B]
 exact zbh s y t j base e i z c ht D G m l C x n d F H q I h1 A k r h
end
end
section
open Go.ChangeShapes Go.WideShapes Go.ChangeAt Go.RowKit
section
variable {H:Type} {enc:TypeId×Value→H} {P:Program} {W:World} {sp:Nat→Bool}
theorem open_bytes {f:Nat} {r:Reach} {t e:TypeId} {v:Value} {d:DataW H} {b:List MemPlace}(ht:P.underlying t=some (.slice e))(g:P.underlying e=some (.int .u8))(h:P.cellsOf e=1)
  (c:Value.okWide P W r f t v) (i:DataW.Trod enc P W 0 (fun _=>true) true t v d b):∃l:List UInt8,Row1 W v (l.map bval):=by
 obtain⟨a,len,k,rfl⟩:=okWide_slice ht c
 obtain⟨fuel,j⟩:=i
 exact bytes_of_trod (y:=(d,b)) ht g h (by simpa[Value.cells]using j)
end
end
theorem decI_small {l:List UInt8}(h:l.length≤7):decI l=(accN l:Int):=by
 unfold decI
 have h1:=accN_lt l
 have h2:256^l.length≤256^7:=Nat.pow_le_pow_right (by omega) h
 have a:(256:Nat)^7=72057594037927936:=by decide
 rw[IntKind.wrap_i64]
 omega
theorem manP_arr {b:List UInt8}(h:b.length=300):(manP b).Arr:=by
 constructor<;>(simp only[manP,q107,q120,h];rfl)
theorem manR_arr {b:List UInt8} {m:Man}(h:manR b=some m):m.Arr∧m.ok=true:=by
 unfold manR at h
 split at h
 ·rename_i a
  obtain rfl:=Option.some.inj h
  exact⟨manP_arr a.1,a.2.2⟩
 cases h
theorem rwP_le {b:List UInt8} {p:Nat} {bad:Bool} {n:Nat}(a:p≤b.length):rwP b p bad n≤b.length:=by
 unfold rwP
 split
 ·exact a
 rename_i h
 unfold rwB at h
 simp at h
 omega
section
theorem readM_arr(b:List UInt8):(readM b).Arr:=by
 unfold readM
 cases h:manR b with
 |none=>exact zcx
 |some m=>exact(manR_arr h).1
theorem RM.there {a w:World} {C K S:Nat} {m:Man} {wv c:Value} {b:List UInt8}(h:RM a w C K S m wv c b)(o n:Nat)(e:o+n≤196):w.there S o n:=fun j d=>by
 refine⟨?_,h.hs.free (o+j)⟩
 rw[h.hs.cell (o+j),List.getElem?_eq_getElem (by rw[zba h.arr];omega)]
 rfl
theorem RM.arr2 {a w:World} {C K S:Nat} {m:Man} {wv d:Value} {b:List UInt8}(h:RM a w C K S m wv d b) {r:List UInt8}(c:r.length=32):RM a (w.setCells S 2 (r.map bval)) C K S { m with root:=r } wv d b∧w.grownBy (w.setCells S 2 (r.map bval)) (some S):=
 have g:=zbm (r.map bval) 2 w w (zay w (some S))
 ⟨h.put g (by rw[←(lay_root h.arr c).1];exact Blk.setCells (r.map bval) _ 2 _ h.hs) (put_root h.arr c) rfl,g⟩
theorem RM.arr36 {a w:World} {C K S:Nat} {m:Man} {wv d:Value} {b:List UInt8}(h:RM a w C K S m wv d b) {r:List UInt8}(c:r.length=32):RM a (w.setCells S 36 (r.map bval)) C K S { m with ckey:=r } wv d b∧w.grownBy (w.setCells S 36 (r.map bval)) (some S):=
 have g:=zbm (r.map bval) 36 w w (zay w (some S))
 ⟨h.put g (by rw[←(lay_ckey h.arr c).1];exact Blk.setCells (r.map bval) _ 36 _ h.hs) (put_ckey h.arr c) rfl,g⟩
end
def RCur(w:World)(c:Nat)(bv:Value)(p:Nat)(bad:Bool):Prop:=Blk w c [bv,.int .i64 p,.bool bad] 77
/-- Raw, of a cursor that is bad, or where there are fewer bytes, or of a negative number. -/
theorem rraw_no(c p len cap:Nat)(a:Option Addr)(bad:Bool)(n:Int)(w:World)(h:RCur w c (.slice a len cap) p bad)(hlen:len≤cap)(hm:cap≤maxLen)(hp:p≤len)(hn:bad=true∨n<0∨(len:Int) - p<n):
  Calls Tryz.prog 38 #[.pointer (some ⟨c,0,none⟩),.int .i64 n] w fun e w'=>e=.returned (.slice none 0 0)∧RCur w' c (.slice a len cap) p true∧w.grownBy w' (some c):=by
 unfold maxLen at hm
 have c0:=h.cell 0
 have c1:=h.cell 1
 have c2:=h.cell 2
 have f2:=h.free 2
 simp only[List.getElem?_cons_zero,List.getElem?_cons_succ]at c0 c1 c2
 have HR:=jh h
 have hpi:(0:Int)≤(p:Int):=Int.natCast_nonneg _
 clear h
 cases bad with
 |true=>
  clear hn
  go_enter Tryz.func38,Tryz.ntmps38
  go_wp2_with fail
  go_quiet (fail)
  go_wp2_with fail
  go_ret
  exact⟨rfl,(HR.o.drewN _).set 2 (.bool true),zav (zbo (zay w _) _) 2 _⟩
 |false=>
  by_cases h1:n<0
  ·clear hn
   go_enter Tryz.func38,Tryz.ntmps38
   go_wp2_with fail
   go_quiet (fail)
   go_wp2_with fail
   go_ret
   exact⟨rfl,(HR.o.drewN _).set 2 (.bool true),zav (zbo (zay w _) _) 2 _⟩
  have h2:(len:Int) - p<n:=by
   rcases hn with h|h|h
   ·cases h
   ·exact absurd h h1
   exact h
  have hd:decide (n<0)=false:=decide_eq_false h1
  have h1':0≤n:=by omega
  clear hn h1
  go_enter Tryz.func38,Tryz.ntmps38
  go_wp2_with fail
  go_quiet (fail)
  go_wp2_with fail
  go_ret
  exact⟨rfl,(HR.o.drewN _).set 2 (.bool true),zav (zbo (zay w _) _) 2 _⟩
/-- Raw, where there are as many bytes. -/
theorem rraw_yes {bl:List UInt8}(c p n:Nat)(bv:Value)(w:World)(h:RCur w c bv p false)(hb:Row1 w bv (bl.map bval))(hp:p+n≤bl.length)(hsz:bl.length≤1099511627776):
  Calls Tryz.prog 38 #[.pointer (some ⟨c,0,none⟩),.int .i64 n] w fun e w'=>∃v,e=.returned v∧w'.ownsRow w.heap.size 5 1 v n (((bl.drop p).take n).map bval)∧RCur w' c bv (p+n) false∧w.grownBy w' (some c):=by
 obtain⟨i0,hi,hz0,hz1,hz2⟩:=info_parts Tryz.info5
 have hb0:=hb
 obtain⟨a,cap,rfl,h1,h2,h3,h4⟩:=hb
 rw[q100]at h1
 unfold maxLen at h2
 have c0:=h.cell 0
 have c1:=h.cell 1
 have c2:=h.cell 2
 have f1:=h.free 1
 simp only[List.getElem?_cons_zero,List.getElem?_cons_succ]at c0 c1 c2
 rw[q100]at c0 h hb0
 have hpi:(0:Int)≤(p:Int):=Int.natCast_nonneg _
 have hni:(0:Int)≤(n:Int):=Int.natCast_nonneg _
 have hd:decide ((n:Int)<0)=false:=decide_eq_false (by omega)
 have hd2:decide ((bl.length:Int) - p<n)=false:=decide_eq_false (by omega)
 have hw:IntKind.i64.wrap ((p:Int)+n)=(p:Int)+n:=IntWalk.i64_in _ (by omega)
 have hw2:(0:Int)≤(p:Int)+n:=by omega
 have hpc:p+n≤cap:=by omega
 have hw3:((p:Int)+n).toNat=p+n:=by omega
 have hpc2:(p:Int)+n≤(cap:Int):=by omega
 have hw0:IntKind.i64.wrap 0=0:=by decide
 obtain⟨HR,HB⟩:=jq2 h hb0
 have hl:Hid ((((bl.drop p).take n).map bval).length=n):=jh (by simp;omega)
 clear h hb0 h4
 cases a with
 |none=>
  have hcap:=h3 rfl
  have hb0:bl=[]:=q154 (by omega)
  subst hb0
  subst hcap
  have hp0:p=0:=by simp at hp;omega
  have hn0:n=0:=by simp at hp;omega
  subst hp0
  subst hn0
  have HV:Hid (Row1 w (.slice none 0 0) ((([]:List UInt8).drop 0).take 0|>.map bval)):=jh (by simpa using Row1.nil w)
  have hcw:=HR.o.lt
  go_enter Tryz.func38,Tryz.ntmps38
  go_wp2_with fail
  go_quiet (fail)
  go_wp2_with fail
  go_region_held3 (fun w'=>w'.cell? ⟨c,0,none⟩=some (.slice none 0 0)∧w'.cell? ⟨c,1,none⟩=some (.int .i64 0))
   (first|go_keep|exact⟨(hgrow1.cell_far ⟨c,0,none⟩ hcw (by simp[Value.ownBlock])).trans c0,(hgrow1.cell_far ⟨c,1,none⟩ hcw (by simp[Value.ownBlock])).trans c1⟩)
   (first|(refine step_append_row (by rfl) (.const (.slice none 0 0)) (.tmp 45) _ (by rfl) w.heap.size 5 i0 (.int .u8 0) 1 q104 hi hz0 hz1 hz2 rfl _ 0 [] (by rfl) (World.ownsRow_nil _ _ _ _) (by rfl) (HV.o.drewN _).drew (zac _) (by rw[hl.o];unfold maxLen;omega) (by rw[hl.o];omega) (q101 _) ?_;intro v1 w1 hown1 hgrow1))
  have hown2:w1.ownsRow w.heap.size 5 1 v1 0 (((([]:List UInt8).drop 0).take 0).map bval):=by
   rw[hl.o,q117,q115]at hown1
   exact hown1
  have hgn:w.grownBy w1 none:=⟨hgrow1.os,hgrow1.tape,hgrow1.output,hgrow1.size,hgrow1.block⟩
  have HR1:=HR.o.grown hgn (by simp)
  have hgr:w.grownBy w1 (some c):=zdu hgn
  have k0:=HR1.cell 0
  have k1:=HR1.cell 1
  have e1:=HR1.free 1
  simp only[List.getElem?_cons_zero,List.getElem?_cons_succ]at k0 k1
  obtain⟨HO,HR2,HG⟩:=jq3 hown2 HR1 hgr
  clear hown1 hown2 hgrow1 hgn HR1 hgr c0 c1 c2 f1
  go_wp2_with fail
  go_ret
  refine⟨_,rfl,ownsRow_setCell_other HO.o (Row1.own_ne HO.o hcw) _,?_,zav HG.o 1 _⟩
  have:=HR2.o.set 1 (.int .i64 0)
  unfold RCur
  simpa using this
 |some ad=>
  by_cases hc:cap=p
  ·have hc2:=hc.symm
   subst hc2
   have HV:Hid (Row1 w (.slice (some ad) 0 0) (((bl.drop p).take n).map bval)):=jh (by
    have hn0:n=0:=by omega
    subst hn0
    simpa using Row1.empty w ad 0 (q145 _))
   have hcw:=HR.o.lt
   go_enter Tryz.func38,Tryz.ntmps38
   go_wp2_with fail
   go_quiet (fail)
   go_wp2_with fail
   go_region_held3 (fun w'=>w'.cell? ⟨c,0,none⟩=some (.slice (some ad) bl.length p)∧w'.cell? ⟨c,1,none⟩=some (.int .i64 p))
    (first|go_keep|exact⟨(hgrow1.cell_far ⟨c,0,none⟩ hcw (by simp[Value.ownBlock])).trans c0,(hgrow1.cell_far ⟨c,1,none⟩ hcw (by simp[Value.ownBlock])).trans c1⟩)
    (first|(refine step_append_row (by rfl) (.const (.slice none 0 0)) (.tmp 45) _ (by rfl) w.heap.size 5 i0 (.int .u8 0) 1 q104 hi hz0 hz1 hz2 rfl _ 0 [] (by rfl) (World.ownsRow_nil _ _ _ _) (by rfl) (HV.o.drewN _).drew (zac _) (by rw[hl.o];unfold maxLen;omega) (by rw[hl.o];omega) (q101 _) ?_;intro v1 w1 hown1 hgrow1))
   have hown2:w1.ownsRow w.heap.size 5 1 v1 n (((bl.drop p).take n).map bval):=by
    rw[hl.o,q117,q115]at hown1
    exact hown1
   have hgn:w.grownBy w1 none:=⟨hgrow1.os,hgrow1.tape,hgrow1.output,hgrow1.size,hgrow1.block⟩
   have HR1:=HR.o.grown hgn (by simp)
   have hgr:w.grownBy w1 (some c):=zdu hgn
   have k0:=HR1.cell 0
   have k1:=HR1.cell 1
   have e1:=HR1.free 1
   simp only[List.getElem?_cons_zero,List.getElem?_cons_succ]at k0 k1
   obtain⟨HO,HR2,HG⟩:=jq3 hown2 HR1 hgr
   clear hown1 hown2 hgrow1 hgn HR1 hgr c0 c1 c2 f1
   go_wp2_with fail
   go_ret
   refine⟨_,rfl,ownsRow_setCell_other HO.o (Row1.own_ne HO.o hcw) _,?_,zav HG.o 1 _⟩
   have:=HR2.o.set 1 (.int .i64 ((p:Int)+n))
   unfold RCur
   rw[q100,Int.natCast_add]
   exact this
  have hc':¬p=cap:=fun e=>hc e.symm
  have HV:Hid (Row1 w (.slice (some (ad.add p)) n (cap - p)) (((bl.drop p).take n).map bval)):=jh (by
   have:=HB.o.sliced p n (by simp;omega)
   rw[List.map_take,List.map_drop]
   exact this)
  have hcw:=HR.o.lt
  go_enter Tryz.func38,Tryz.ntmps38
  go_wp2_with fail
  go_quiet (fail)
  go_wp2_with fail
  go_region_held3 (fun w'=>w'.cell? ⟨c,0,none⟩=some (.slice (some ad) bl.length cap)∧w'.cell? ⟨c,1,none⟩=some (.int .i64 p))
   (first|go_keep|exact⟨(hgrow1.cell_far ⟨c,0,none⟩ hcw (by simp[Value.ownBlock])).trans c0,(hgrow1.cell_far ⟨c,1,none⟩ hcw (by simp[Value.ownBlock])).trans c1⟩)
   (first|(refine step_append_row (by rfl) (.const (.slice none 0 0)) (.tmp 45) _ (by rfl) w.heap.size 5 i0 (.int .u8 0) 1 q104 hi hz0 hz1 hz2 rfl _ 0 [] (by rfl) (World.ownsRow_nil _ _ _ _) (by rfl) (HV.o.drewN _).drew (zac _) (by rw[hl.o];unfold maxLen;omega) (by rw[hl.o];omega) (q101 _) ?_;intro v1 w1 hown1 hgrow1))
  have hown2:w1.ownsRow w.heap.size 5 1 v1 n (((bl.drop p).take n).map bval):=by
   rw[hl.o,q117,q115]at hown1
   exact hown1
  have hgn:w.grownBy w1 none:=⟨hgrow1.os,hgrow1.tape,hgrow1.output,hgrow1.size,hgrow1.block⟩
  have HR1:=HR.o.grown hgn (by simp)
  have hgr:w.grownBy w1 (some c):=zdu hgn
  have k0:=HR1.cell 0
  have k1:=HR1.cell 1
  have e1:=HR1.free 1
  simp only[List.getElem?_cons_zero,List.getElem?_cons_succ]at k0 k1
  obtain⟨HO,HR2,HG⟩:=jq3 hown2 HR1 hgr
  clear hown1 hown2 hgrow1 hgn HR1 hgr c0 c1 c2 f1
  go_wp2_with fail
  go_ret
  refine⟨_,rfl,ownsRow_setCell_other HO.o (Row1.own_ne HO.o hcw) _,?_,zav HG.o 1 _⟩
  have:=HR2.o.set 1 (.int .i64 ((p:Int)+n))
  unfold RCur
  rw[q100,Int.natCast_add]
  exact this
theorem i64wrap(n:Int):IntKind.i64.wrap n=wrap64 n:=IntWalk.i64_left n
theorem or_byte(m:Nat)(b:UInt8)(e:m<72057594037927936):bits .or .i64 (IntKind.i64.wrap ((m:Int)*256)) (b.toNat:Int)=IntKind.i64.wrap ((m*256+b.toNat:Nat):Int):=by
 have d:=b.toNat_lt
 have a:(BitVec.ofInt 64 (IntKind.i64.wrap ((m:Int)*256))).toNat=m*256:=by
  rw[BitVec.toNat_ofInt,IntKind.wrap_i64]
  omega
 have c:(BitVec.ofInt 64 (b.toNat:Int)).toNat=b.toNat:=by
  rw[BitVec.toNat_ofInt]
  omega
 show IntKind.i64.wrap ((BitVec.ofInt 64 (IntKind.i64.wrap ((m:Int)*256))|||BitVec.ofInt 64 (b.toNat:Int)).toNat:Nat)=_
 rw[BitVec.toNat_or,a,c]
 congr 2
 have:=Nat.two_pow_add_eq_or_of_lt (i:=8) (b:=b.toNat) (by simpa using d) m
 rw[q134 m 256]
 exact this.symm
/-- Int, where there are fewer than eight bytes. -/
theorem rcint_no(c p len cap:Nat)(a:Option Addr)(bad:Bool)(w:World)(h:RCur w c (.slice a len cap) p bad)(hlen:len≤cap)(hm:cap≤maxLen)(hp:p≤len)(hn:bad=true∨(len:Int) - p<8):
  Calls Tryz.prog 39 #[.pointer (some ⟨c,0,none⟩)] w fun e w'=>e=.returned (.int .i64 0)∧RCur w' c (.slice a len cap) p true∧w.grownBy w' (some c):=by
 have hr:=jh (rraw_no c p len cap a bad 8 w h hlen hm hp (hn.elim Or.inl fun h=>Or.inr (Or.inr h)))
 clear h hn
 go_enter Tryz.func39,Tryz.ntmps39
 go_wp2_with fail
 refine hr.o.mono ?_
 rintro e w' ⟨rfl,h1,h2⟩
 go_wp2_with fail
 refine wp_loop_rounds 1 ?_
 rw[rounds_succ]
 go_wp2_with fail
 go_ret
 exact⟨rfl,h1,h2⟩
/-- Int, where there are eight bytes. -/
theorem rcint_yes {bl:List UInt8}(c p:Nat)(bv:Value)(w:World)(h:RCur w c bv p false)(hb:Row1 w bv (bl.map bval))(hp:p+8≤bl.length)(hsz:bl.length≤1099511627776)(hne:bv.ownBlock≠some c):
  Calls Tryz.prog 39 #[.pointer (some ⟨c,0,none⟩)] w fun e w'=>e=.returned (.int .i64 (decI ((bl.drop p).take 8)))∧RCur w' c bv (p+8) false∧w.grownBy w' (some c):=by
 have hr:=jh (rraw_yes c p 8 bv w h hb hp hsz)
 clear h hb
 have hl:((bl.drop p).take 8).length=8:=by simp;omega
 generalize (bl.drop p).take 8=l at*
 go_enter Tryz.func39,Tryz.ntmps39
 go_wp2_with fail
 refine hr.o.mono ?_
 rintro e w' ⟨v,rfl,hown,h1,h2⟩
 rcases hown.2 with⟨_,h0⟩|⟨g,cap,cur,rfl,_,_,hc1,hc2,_,_⟩
 ·omega
 have hcell:∀k,k<8→w'.cell? ⟨g,k,none⟩=some (bval (l.getD k 0)):=by
  intro k hk
  rw[hown.cellAt k (by omega),List.getElem?_map,List.getElem?_eq_getElem (by omega)]
  simp[List.getD,show k<l.length from by omega]
 obtain⟨HC,H1,H2,HL⟩:=jq4 hcell h1 h2 hl
 unfold maxLen at hc2
 clear hown hcell h1 h2 hl
 go_wp2_with fail
 go_loop [4,5] (fun s i=>∃k:Nat,k≤8∧i=.int .i64 k∧s=.int .i64 (decI (l.take k))) (fun _ i=>8 - (intOf i).toNat)
 case atStart=>exact⟨0,by omega,rfl,by rfl⟩
 case round=>
  obtain⟨k,hk,rfl,hs⟩:=hrel
  by_cases hlt:k<8
  ·have hl:=HL.o
   have c1:=HC.o k hlt
   have hsm:=decI_small (l:=l.take k) (by simp;omega)
   have hm:=accN_lt (l.take k)
   have hm2:256^(l.take k).length≤256^7:=Nat.pow_le_pow_right (by omega) (by simp;omega)
   have hm3:(256:Nat)^7=72057594037927936:=by decide
   have hnext:decI (l.take (k+1))=bits .or .i64 (IntKind.i64.wrap ((accN (l.take k):Int)*256)) ((l.getD k 0).toNat:Int):=by
    rw[or_byte _ _ (by omega),q143 (by omega)]
    unfold decI
    rw[accN_snoc]
    simp[List.getD,show k<l.length from by omega]
   have hm4:accN (l.take k)<72057594037927936:=by omega
   have hbt:=(l.getD k 0).toNat_lt
   rw[hsm]at hs
   unfold bval at c1
   generalize accN (l.take k)=m at*
   generalize (l.getD k 0).toNat=bt at*
   subst hs
   have HN:=jh hnext
   clear hl hsm hm hm2 hm3 hnext
   go_wp2_with fail
   go_round
   case rel=>exact⟨k+1,by omega,by go_num,by rw[HN.o,i64wrap]⟩
   case measure=>simp[intOf];omega
  have hk':k=8:=by omega
  subst hk'
  have hl:=HL.o
  rw[q108 (by omega)]at hs
  subst hs
  clear hl
  go_wp2_with fail
  go_ret
  exact⟨rfl,H1.o,H2.o⟩
theorem rend_any(c p len f:Nat)(a:Option Addr)(bad:Bool)(w:World)(h:RCur w c (.slice a len f) p bad)(m:len≤f)(i:f≤maxLen)(n:p≤len):
  Calls Tryz.prog 41 #[.pointer (some ⟨c,0,none⟩)] w fun e g=>e=.returned (.bool (!bad && decide (p=len)))∧∃k,g=w.drewN k:=by
 unfold maxLen at i
 have j:=h.cell 0
 have c1:=h.cell 1
 have c2:=h.cell 2
 simp only[List.getElem?_cons_zero,List.getElem?_cons_succ]at j c1 c2
 clear h
 cases bad with
 |true=>
  go_enter Tryz.func41,Tryz.ntmps41
  go_wp2_with fail
  go_quiet (fail)
  go_wp2_with fail
  go_ret
  exact⟨rfl,_,rfl⟩
 |false=>
  by_cases b:p=len
  ·have l:((p:Int)==(len:Int))=true:=by simp[b]
   have d:Hid (decide (p=len)=true):=jh (decide_eq_true b)
   clear b
   go_enter Tryz.func41,Tryz.ntmps41
   go_wp2_with fail
   go_quiet (fail)
   go_wp2_with fail
   go_ret
   exact⟨by rw[d.o];rfl,_,rfl⟩
  have l:((p:Int)==(len:Int))=false:=by simp;omega
  have d:Hid (decide (p=len)=false):=jh (decide_eq_false b)
  clear b
  go_enter Tryz.func41,Tryz.ntmps41
  go_wp2_with fail
  go_quiet (fail)
  go_wp2_with fail
  go_ret
  exact⟨by rw[d.o];rfl,_,rfl⟩
theorem one_u8c:(Tryz.prog.info? 5).map (·.size)=some 1:=by kernel_rfl
theorem row_apart {d:World} {v:Value} {f:List Value} {c:Nat}(h:Row1 d v f)(g:f≠[])(k:d.heap.size≤c):v.ownBlock≠some c:=by
 obtain⟨a,l,rfl,_,_,_,i⟩:=h
 obtain⟨b,off,rfl,j,_⟩:=i g
 intro e
 have:b=c:=Option.some.inj e
 omega
theorem rraw_own {b:List UInt8}(c p n:Nat)(j:Value)(bad:Bool)(w:World)(h:RCur w c j p bad)(m:Row1 w j (b.map bval))(y:p≤b.length)(x:b.length≤1099511627776):
  Calls Tryz.prog 38 #[.pointer (some ⟨c,0,none⟩),.int .i64 (n:Int)] w fun e f=>∃v,e=.returned v∧Row1 f v ((rwL b p bad n).map bval)∧RCur f c j (rwP b p bad n) (rwB b p bad n)∧w.grownBy f (some c)∧∀k,v.ownBlock=some k→w.heap.size≤k∧k<f.heap.size:=by
 cases d:rwB b p bad n with
 |true=>
  have l:rwL b p bad n=[]:=by unfold rwL;rw[d];rfl
  have s:rwP b p bad n=p:=by unfold rwP;rw[d];rfl
  rw[l,s]
  obtain⟨a,u,rfl,h1,h2,_⟩:=id m
  rw[q100]at h h1 m⊢
  have z:bad=true∨(n:Int)<0∨(b.length:Int) - (p:Int)<(n:Int):=by
   unfold rwB at d
   rw[Bool.or_eq_true,decide_eq_true_iff]at d
   rcases d with h|h
   ·exact Or.inl h
   exact Or.inr (Or.inr (by omega))
  refine(rraw_no c p b.length u a bad n w h h1 h2 y z).mono ?_
  rintro e f ⟨rfl,r,q⟩
  exact⟨_,rfl,Row1.nil f,r,q,fun k i=>by cases i⟩
 |false=>
  have l:rwL b p bad n=(b.drop p).take n:=by unfold rwL;rw[d];rfl
  have s:rwP b p bad n=p+n:=by unfold rwP;rw[d];rfl
  unfold rwB at d
  rw[Bool.or_eq_false_iff,decide_eq_false_iff_not]at d
  obtain⟨rfl,d⟩:=d
  rw[l,s]
  refine(rraw_yes c p n j w h m (by omega) x).mono ?_
  rintro e f ⟨v,rfl,t,r,q⟩
  refine⟨v,rfl,Row1.of_own t,r,q,fun k i=>?_⟩
  have C:c<w.heap.size:=Blk.lt h
  obtain⟨_,⟨rfl,_⟩|⟨g,u,B,rfl,D,A,_⟩⟩:=t
  ·cases i
  obtain rfl:g=k:=Option.some.inj i
  refine⟨by omega,?_⟩
  have:=Array.getElem?_eq_some_iff.1 A
  exact this.1
theorem rcint_any {b:List UInt8}(c p:Nat)(f:Value)(bad:Bool)(w:World)(h:RCur w c f p bad)(i:Row1 w f (b.map bval))(m:p≤b.length)(l:b.length≤1099511627776)(q:b≠[]→f.ownBlock≠some c):
  Calls Tryz.prog 39 #[.pointer (some ⟨c,0,none⟩)] w fun e k=>e=.returned (.int .i64 (rwI b p bad))∧RCur k c f (rwP b p bad 8) (rwB b p bad 8)∧w.grownBy k (some c):=by
 cases d:rwB b p bad 8 with
 |true=>
  have g:rwI b p bad=0:=by unfold rwI;rw[d];rfl
  have j:rwP b p bad 8=p:=by unfold rwP;rw[d];rfl
  rw[g,j]
  obtain⟨a,r,rfl,h1,h2,_⟩:=id i
  rw[q100]at h h1 i⊢
  have n:bad=true∨(b.length:Int) - (p:Int)<8:=by
   unfold rwB at d
   rw[Bool.or_eq_true,decide_eq_true_iff]at d
   rcases d with h|h
   ·exact Or.inl h
   exact Or.inr (by omega)
  exact rcint_no c p b.length r a bad w h h1 h2 m n
 |false=>
  have g:rwI b p bad=decI ((b.drop p).take 8):=by unfold rwI;rw[d];rfl
  have j:rwP b p bad 8=p+8:=by unfold rwP;rw[d];rfl
  unfold rwB at d
  rw[Bool.or_eq_false_iff,decide_eq_false_iff_not]at d
  obtain⟨rfl,d⟩:=d
  rw[g,j]
  exact rcint_yes c p f w h i (by omega) l (q (by rintro rfl;simp at d))
def RQ(w:World)(c:Nat)(b:List UInt8)(bv:Value)(q:Nat):Prop:=∃p d,RCur w c bv p d∧Cur b q p d∧p≤b.length
theorem RQ.lt {w:World} {c q:Nat} {b:List UInt8} {a:Value}(h:RQ w c b a q):c<w.heap.size:=by
 obtain⟨p,d,h,_⟩:=h
 exact Blk.lt h
theorem RQ.far {w a:World} {c s q:Nat} {b:List UInt8} {f:Value}(h:RQ w c b f q)(g:w.grownBy a (some s))(i:s≠c):RQ a c b f q:=by
 obtain⟨p,d,h1,h2⟩:=h
 exact⟨p,d,Blk.grown h1 g (fun e=>i (Option.some.inj e)),h2⟩
theorem RQ.ext {w a:World} {c q:Nat} {b:List UInt8} {e:Value}(h:RQ w c b e q)(f:Ext w a):RQ a c b e q:=by
 obtain⟨p,d,h1,h2⟩:=h
 exact⟨p,d,zak (show Blk w c _ _ from h1) f,h2⟩
theorem rq_raw {b:List UInt8}(c q n:Nat)(f:Value)(w:World)(h:RQ w c b f q)(j:Row1 w f (b.map bval))(i:b.length≤1099511627776):
  Calls Tryz.prog 38 #[.pointer (some ⟨c,0,none⟩),.int .i64 (n:Int)] w fun e a=>∃v,e=.returned v∧Row1 a v ((cuL b q n).map bval)∧RQ a c b f (q+n)∧w.grownBy a (some c)∧∀k,v.ownBlock=some k→w.heap.size≤k∧k<a.heap.size:=by
 obtain⟨p,d,h1,h2,g⟩:=h
 rw[←h2.list n]
 exact(rraw_own c p n f d w h1 j g i).mono fun e a ⟨v,e1,e2,e3,e4,e5⟩=>⟨v,e1,e2,⟨_,_,e3,h2.next n,rwP_le g⟩,e4,e5⟩
theorem rq_int {b:List UInt8}(c q:Nat)(a:Value)(w:World)(h:RQ w c b a q)(j:Row1 w a (b.map bval))(i:b.length≤1099511627776)(k:b≠[]→a.ownBlock≠some c):
  Calls Tryz.prog 39 #[.pointer (some ⟨c,0,none⟩)] w fun e f=>e=.returned (.int .i64 (cuI b q))∧RQ f c b a (q+8)∧w.grownBy f (some c):=by
 obtain⟨p,d,h1,h2,g⟩:=h
 rw[←h2.int]
 exact(rcint_any c p a d w h1 j g i k).mono fun e f ⟨e1,e3,e4⟩=>⟨e1,⟨_,_,e3,h2.next 8,rwP_le g⟩,e4⟩
theorem rq_end {b:List UInt8}(c q:Nat)(g:Value)(w:World)(h:RQ w c b g q)(j:Row1 w g (b.map bval)):
  Calls Tryz.prog 41 #[.pointer (some ⟨c,0,none⟩)] w fun e f=>e=.returned (.bool (decide (b.length=q)))∧Ext w f:=by
 obtain⟨p,d,h1,h2,l⟩:=h
 obtain⟨a,n,rfl,i,m,_⟩:=id j
 rw[q100]at h1 i
 rw[←h2.ends]
 refine(rend_any c p b.length n a d w h1 i m l).mono fun e f h=>⟨h.1,?_⟩
 obtain⟨k,rfl⟩:=h.2
 exact below_drewN (Below.refl _ _) k
theorem grown_ext {w a:World} {r:Option Nat}(h:Ext w a):w.grownBy a r:=⟨h.os,h.tape,h.output,h.size,fun k b _=>h.block k b⟩
theorem grown_far {a b d:World} {K c:Nat}(h:a.grownBy b (some K))(g:b.grownBy d (some c))(j:a.heap.size≤c):a.grownBy d (some K):=
 ⟨g.os.trans h.os,g.tape.trans h.tape,g.output.trans h.output,q119 h.size g.size,fun k f i=>(g.block k (q116 f h.size) (fun e=>by cases e;omega)).trans (h.block k f i)⟩
theorem cu_z32(b:List UInt8)(q:Nat):splice (z32.map bval) 0 ((cuL b q 32).map bval)=(cuN b q 32).map bval:=by
 rcases cu_lay b q 32 with⟨a,c⟩|⟨a,c⟩
 ·rw[a,c,q135,splice_nil]
  rfl
 have h:=splice_mid (pre:=[]) (mid:=z32.map bval) (post:=[]) (new:=(cuL b q 32).map bval) (by rw[q100,q100,a,zbk])
 rw[c]
 simpa using h
theorem rnum_q {b:List UInt8}(K q:Nat)(l:Value)(w:World)(h:RQ w K b l q)(v:Row1 w l (b.map bval))(C:b.length≤1099511627776)(I:b≠[]→l.ownBlock≠some K):
  Calls Tryz.prog 40 #[.pointer (some ⟨K,0,none⟩)] w fun e u=>e=.returned (.agg ((cuN b q 32).map bval).toArray)∧RQ u K b l (q+32)∧w.grownBy u (some K):=by
 obtain⟨z,D,s,M,T⟩:=jq5 (boxes2 w (z32.map bval) (z32.map bval) 23 23) h v C I
 clear h v C I
 go_enter Tryz.func40,Tryz.ntmps40
 go_upto_region 2 with(fail)
 obtain⟨c,a,f⟩:=z.o
 change Code.wp _ _ _ _ ((w.alloc (.cells (z32.map bval).toArray 23)).alloc (.cells (z32.map bval).toArray 23))
 generalize (w.alloc (.cells (z32.map bval).toArray 23)).alloc (.cells (z32.map bval).toArray 23)=E at*
 have f:Hid (Ext w E):=jh f
 have G:=jh D.o.lt
 obtain⟨N,B⟩:=nxq (w.heap.size+1)
 rw[←B]at a⊢
 obtain⟨R,F⟩:=nxq w.heap.size
 have d:Hid (K<R∧R<N∧w.heap.size=R):=jh (by have:=G.o;omega)
 rw[←F]at c⊢
 obtain⟨c,a,i,s⟩:=jq4 c a (D.o.ext f.o) (s.o.below f.o)
 clear B F z G
 refine wp_region_held_drew (S:=fun _=>True) (by kernel_rfl) trivial (fun g=>?_)
 refine tke 0 (.slice (some ⟨N,0,none⟩) 32 32) rfl (zbp _ _ _ _ (.pointer (some ⟨N,0,none⟩)) (.slice (some ⟨N,0,none⟩) 32 32) none none (by rfl) rfl rfl rfl rfl (fun w=>zdb q102 q111 (by omega) _ _ w)) g ?_
 simp only[nm]
 refine tke 1 (.pointer (some ⟨K,0,none⟩)) rfl (zbe _ (.pointer (some ⟨K,0,none⟩)) (by rfl) rfl rfl) g ?_
 simp only[nm]
 refine wpAnyH_ready (rs:=[2]) (by kernel_rfl) (by simp) (AllReadyH.cons rfl (fun K0 j=>?_) AllReadyH.nil)
 go_simp
 refine(rq_raw K q 32 _ E.drew (i.o.ext (Ext.drew _)) (s.o.below (Ext.drew _)) M.o).mono ?_
 rintro e J ⟨U,rfl,t,H,k,_⟩
 obtain⟨Q,O,A,_⟩:=id t
 rw[q100]at A
 subst A
 obtain⟨y,i⟩:=jq2 t H
 have c:=jh ((zak c.o (Ext.drew _)).grown k (by have:=d.o;simp;omega))
 have a:=jh ((zak a.o (Ext.drew _)).grown k (by have:=d.o;simp;omega))
 have r:Hid (w.grownBy J (some K)):=jh (grownBy_trans (grown_ext (f.o.trans (Ext.drew _))) k)
 clear t H k
 refine j.o _ _ trivial (fun g=>?_)
 clear j K0
 try simp only[nm]
 refine wpAnyH_ready (rs:=[3]) (by kernel_rfl) (by simp) (AllReadyH.cons rfl (fun K0 j=>?_) AllReadyH.nil)
 refine zan (by rfl) ?_
 refine zbu _ _ 24 24 rfl 5 q104 one_u8c _ _ _ _ _ _ rfl rfl N 0 _ _ a.o ((cuL b q 32).map bval) (by rw[q100];exact(q140 zcl).symm) (fun h=>⟨rfl,row_src y.o (cuL b q 32) (by rw[q133]) (q101 _) (Ext.refl _) h⟩) (by have:=@zcl b q 32;rw[q100,q100,zbk];omega) (zac _) ?_
 intro wc p m
 rw[cu_z32]at p
 have a:=jh p
 have c:=jh (c.o.grown m (by have:=d.o;simp;omega))
 have i:=jh (i.o.far m (by have:=d.o;omega))
 have r:=jh (grown_far r.o m (by have:=d.o;omega))
 clear p m y
 refine j.o _ _ trivial (fun g=>?_)
 clear j K0 g
 try simp only[nm]
 refine dne ?_
 have n:=jh (zaf (zck b q 32))
 go_wp2_with (first|(refine slb N a.o q102 n.o ?_)|(refine ssb R ((cuN b q 32).map bval) c.o (by rw[q100,q100,zck,zbk]) n.o (zac _) ?_;intro P L x))
 refine bodyPost_ret (zam rfl _ R _ _ _ _ rfl L q102 n.o) rfl ?_
 exact⟨rfl,i.o.far x (by have:=d.o;omega),grown_far r.o x (by have:=d.o;omega)⟩
theorem rReadManifest_any(b:List UInt8)(bv:Value)(w:World)(q:Row1 w bv (b.map bval))(aw:b.length≤1000000):
  Calls Tryz.prog 18 #[bv] w fun e w'=>∃wv,e=.returned (.tuple #[.agg (manC (readM b) wv).toArray,.int .i64 (readE b)])∧Row1 w' wv ((readM b).wr.map bval)∧Below w.heap.size w w':=by
 obtain⟨J,I,ak,ac,av,_⟩:=id q
 rw[q100]at ak ac
 subst ak
 have j:=jh q
 have t:Hid (b.length≤1099511627776):=jh (by omega)
 obtain⟨U,a2⟩:=jq2 (Blk.made w (manC manZ (.slice none 0 0)) 30) (Ext.alloc w (.cells (manC manZ (.slice none 0 0)).toArray 30))
 obtain⟨R,ae⟩:=nxq (cuL b 0 4)
 have aj:=jh ae
 clear q aw ac av ae
 go_enter Tryz.func18,Tryz.ntmps18
 go_upto_region 1 with(fail)
 change Code.wp _ _ _ _ (w.alloc (.cells (manC manZ (.slice none 0 0)).toArray 30))
 generalize w.alloc (.cells (manC manZ (.slice none 0 0)).toArray 30)=n at*
 obtain⟨C,hC⟩:=nxq w.heap.size
 have af:Hid (w.heap.size≤C):=jh (by omega)
 rw[←hC]at U⊢
 clear hC
 go_upto_region 2 with(fail)
 have f:Hid (RQ (n.alloc (.cells #[.slice J b.length I,.int .i64 0,.bool false] 77)) n.heap.size b (.slice J b.length I) 0):=jh ⟨0,false,Blk.made n [.slice J b.length I,.int .i64 0,.bool false] _,Cur.start b,q145 _⟩
 have V:Hid (Ext n (n.alloc (.cells #[.slice J b.length I,.int .i64 0,.bool false] 77))):=jh (Ext.alloc _ _)
 have ag:Hid (n.heap.size<(n.alloc (.cells #[.slice J b.length I,.int .i64 0,.bool false] 77)).heap.size):=jh (by simp)
 generalize n.alloc (.cells #[.slice J b.length I,.int .i64 0,.bool false] 77)=wk at*
 have a0:Hid (C<n.heap.size):=jh U.o.lt
 have a7:Hid (w.heap.size≤n.heap.size):=jh a2.o.size
 generalize n.heap.size=K at*
 have HC:=xxb U V.o
 have HE:=xxt a2 V.o
 clear U a2 V
 have HR:=jh (rq_raw K 0 4 _ wk f.o (j.o.below HE.o) t.o)
 rw[←aj.o]at HR
 go_wp2_with fail
 refine HR.o.mono ?_
 rintro e y ⟨W,rfl,ht,g,d,a5⟩
 have c:Hid (RM w (y.alloc (.cells (manC manZ (.slice none 0 0)).toArray 30)) C K y.heap.size manZ (.slice none 0 0) W R):=jh (by
  have h1:=HC.o.grown d (by have:=a0.o;simp;omega)
  have h2:=d.size
  have h3:=h1.lt
  have h4:=ag.o
  have h5:=a0.o
  have h6:=a7.o
  have h7:=af.o
  have T:Ext y (y.alloc (.cells (manC manZ (.slice none 0 0)).toArray 30)):=Ext.alloc _ _
  refine⟨(zab HE.o d h6).trans T,zcx,zak h1 T,Blk.made _ _ _,Row1.nil _,(fun k e=>by cases e),ht.below T,fun k e=>?_,by omega,by omega,by omega,by omega,by omega,by omega⟩
  have h8:=a5 k e
  have h9:=T.size
  exact⟨by omega,by omega,by omega,by omega⟩)
 have f:=jh (g.ext (Ext.alloc y (.cells (manC manZ (.slice none 0 0)).toArray 30)))
 clear ht g d a5 HR HC HE a0 a7 ag af
 go_upto_region 4 with(fail)
 change Code.wp _ _ _ _ (y.alloc (.cells (manC manZ (.slice none 0 0)).toArray 30))
 generalize y.alloc (.cells (manC manZ (.slice none 0 0)).toArray 30)=w3 at*
 generalize y.heap.size=S at*
 go_wp2_with fail
 refine(rq_int K 4 _ w3 f.o (j.o.below c.o.ext) t.o (fun s=>row_apart j.o (by simpa using s) c.o.oc.2.1)).mono ?_
 rintro e w4 ⟨rfl,g,d⟩
 obtain⟨f,c⟩:=jq2 g (c.o.grow d)
 clear g d
 obtain⟨Y,B,D⟩:=c.o.see 0 (by omega)
 go_upto_region 5 with(fail)
 obtain⟨i,d⟩:=c.o.cell0 (cuI b 4)
 obtain⟨f,c⟩:=jq2 (f.o.far d c.o.oc.2.2.2.2.2.symm) i
 clear i d B D
 generalize w4.setCell ⟨S,0,none⟩ (.int .i64 (cuI b 4))=w5 at*
 go_wp2_with fail
 refine(rq_int K 12 _ w5 f.o (j.o.below c.o.ext) t.o (fun s=>row_apart j.o (by simpa using s) c.o.oc.2.1)).mono ?_
 rintro e w6 ⟨rfl,g,d⟩
 obtain⟨f,c⟩:=jq2 g (c.o.grow d)
 clear g d
 obtain⟨Y,B,D⟩:=c.o.see 1 (by omega)
 go_upto_region 6 with(fail)
 obtain⟨i,d⟩:=c.o.cell1 (cuI b 12)
 obtain⟨f,c⟩:=jq2 (f.o.far d c.o.oc.2.2.2.2.2.symm) i
 clear i d B D
 generalize w6.setCell ⟨S,1,none⟩ (.int .i64 (cuI b 12))=w7 at*
 go_wp2_with fail
 refine(rnum_q K 20 _ w7 f.o (j.o.below c.o.ext) t.o (fun s=>row_apart j.o (by simpa using s) c.o.oc.2.1)).mono ?_
 rintro e w8 ⟨rfl,g,d⟩
 obtain⟨f,c⟩:=jq2 g (c.o.grow d)
 clear g d
 have M:=jh (zaf (zck b 20 32))
 go_upto_region 7 with(refine wpList_store_mid rfl _ _ _ rfl S 2 ((cuN b 20 32).map bval).toArray rfl rfl (by rw[q136,q100,zck];exact c.o.there 2 32 (by omega)) (by rw[q136];exact M.o) (all_oneCell_toArray (zac _)) ?_)
 try rw[List.toList_toArray]
 obtain⟨i,d⟩:=c.o.arr2 (zck b 20 32)
 obtain⟨f,c⟩:=jq2 (f.o.far d c.o.oc.2.2.2.2.2.symm) i
 clear i d M
 generalize w8.setCells S 2 ((cuN b 20 32).map bval)=w9 at*
 go_wp2_with fail
 refine(rq_raw K 52 80 _ w9 f.o (j.o.below c.o.ext) t.o).mono ?_
 rintro e an ⟨xv,rfl,r,g,d,ad⟩
 obtain⟨ah,a1,f,c⟩:=jq4 (c.o.fresh f.o.lt ad) r g (c.o.grow d)
 clear r g d ad
 obtain⟨xa,xc,a6,_⟩:=id a1.o
 rw[q100]at a6
 subst a6
 obtain⟨Y,B,D⟩:=c.o.see 34 (by omega)
 go_upto_region 8 with(fail)
 obtain⟨i,d⟩:=c.o.cell34 a1.o ah.o
 obtain⟨f,c⟩:=jq2 (f.o.far d c.o.oc.2.2.2.2.2.symm) i
 clear i d B D a1 ah
 generalize an.setCell ⟨S,34,none⟩ (.slice xa (cuL b 52 80).length xc)=al at*
 generalize Value.slice xa (cuL b 52 80).length xc=wv at*
 go_wp2_with fail
 refine(rq_int K 132 _ al f.o (j.o.below c.o.ext) t.o (fun s=>row_apart j.o (by simpa using s) c.o.oc.2.1)).mono ?_
 rintro e ax ⟨rfl,g,d⟩
 obtain⟨f,c⟩:=jq2 g (c.o.grow d)
 clear g d
 obtain⟨Y,B,D⟩:=c.o.see 35 (by omega)
 go_upto_region 9 with(fail)
 obtain⟨i,d⟩:=c.o.cell35 (cuI b 132)
 obtain⟨f,c⟩:=jq2 (f.o.far d c.o.oc.2.2.2.2.2.symm) i
 clear i d B D
 generalize ax.setCell ⟨S,35,none⟩ (.int .i64 (cuI b 132))=aq at*
 go_wp2_with fail
 refine(rnum_q K 140 _ aq f.o (j.o.below c.o.ext) t.o (fun s=>row_apart j.o (by simpa using s) c.o.oc.2.1)).mono ?_
 rintro e ao ⟨rfl,g,d⟩
 obtain⟨f,c⟩:=jq2 g (c.o.grow d)
 clear g d
 have M:=jh (zaf (zck b 140 32))
 go_upto_region 10 with(refine wpList_store_mid rfl _ _ _ rfl S 36 ((cuN b 140 32).map bval).toArray rfl rfl (by rw[q136,q100,zck];exact c.o.there 36 32 (by omega)) (by rw[q136];exact M.o) (all_oneCell_toArray (zac _)) ?_)
 try rw[List.toList_toArray]
 obtain⟨i,d⟩:=c.o.arr36 (zck b 140 32)
 obtain⟨f,c⟩:=jq2 (f.o.far d c.o.oc.2.2.2.2.2.symm) i
 clear i d M
 generalize ao.setCells S 36 ((cuN b 140 32).map bval)=aa at*
 go_upto_region 10 with(fail)
 refine wp_region_held_drew (S:=fun _=>True) (by kernel_rfl) trivial (fun m=>?_)
 refine tke 0 (.pointer (some ⟨S,35,none⟩)) rfl (zaz (.pointer (some ⟨S,35,none⟩)) (by rfl) (fun w _=>by go_simp)) m ?_
 simp only[nm]
 refine tke 1 (.pointer (some ⟨S,68,none⟩)) rfl (zaz (.pointer (some ⟨S,68,none⟩)) (by rfl) (fun w _=>by go_simp)) m ?_
 simp only[nm]
 refine tke 2 (.slice (some ⟨S,68,none⟩) 64 64) rfl (zbp _ _ _ _ (.pointer (some ⟨S,68,none⟩)) (.slice (some ⟨S,68,none⟩) 64 64) none none (by rfl) rfl rfl rfl rfl (fun w=>zdb q126 q111 (by omega) _ _ w)) m ?_
 simp only[nm]
 refine tke 3 (.pointer (some ⟨K,0,none⟩)) rfl (zbe _ (.pointer (some ⟨K,0,none⟩)) (by rfl) rfl rfl) m ?_
 simp only[nm]
 refine wpAnyH_ready (rs:=[4]) (by kernel_rfl) (by simp) (AllReadyH.cons rfl (fun K0 p=>?_) AllReadyH.nil)
 go_simp
 have c:=jh (c.o.below (Ext.drew aa))
 refine(rq_raw K 172 64 _ aa.drew (f.o.ext (Ext.drew _)) (j.o.below c.o.ext) t.o).mono ?_
 rintro e b1 ⟨rv,rfl,r,g,d,_⟩
 obtain⟨ar,cr,N,_⟩:=id r
 rw[q100]at N
 subst N
 obtain⟨L,f,c⟩:=jq3 r g (c.o.grow d)
 clear r g d
 refine p.o _ _ trivial (fun m=>?_)
 clear p K0
 try simp only[nm]
 refine wpAnyH_ready (rs:=[5]) (by kernel_rfl) (by simp) (AllReadyH.cons rfl (fun K0 p=>?_) AllReadyH.nil)
 refine zan (by rfl) ?_
 refine zbu _ _ 24 24 rfl 5 q104 one_u8c _ _ _ _ _ _ rfl rfl S 68 _ _ c.o.hs ((cuL b 172 64).map bval) (by rw[q100];exact(q140 zcl).symm) (fun h=>⟨rfl,row_src L.o (cuL b 172 64) (by rw[q133]) (q101 _) (Ext.refl _) h⟩) (by have:=@zcl b 172 64;rw[q100,zba c.o.arr];omega) (zac _) ?_
 intro ai E F
 rw[cu_csig (a:=c.o.arr) rfl]at E
 have f:=jh (f.o.far F c.o.oc.2.2.2.2.2.symm)
 have c:=jh (c.o.put F E (put_csig c.o.arr (zck _ _ _)) rfl)
 clear E F L
 refine p.o _ _ trivial (fun m=>?_)
 clear p K0 m
 try simp only[nm]
 refine dne ?_
 go_wp2_with fail
 go_upto_region 11 with(fail)
 refine wp_region_held_drew (S:=fun _=>True) (by kernel_rfl) trivial (fun m=>?_)
 refine tke 0 (.pointer (some ⟨S,132,none⟩)) rfl (zaz (.pointer (some ⟨S,132,none⟩)) (by rfl) (fun w _=>by go_simp)) m ?_
 simp only[nm]
 refine tke 1 (.slice (some ⟨S,132,none⟩) 64 64) rfl (zbp _ _ _ _ (.pointer (some ⟨S,132,none⟩)) (.slice (some ⟨S,132,none⟩) 64 64) none none (by rfl) rfl rfl rfl rfl (fun w=>zdb q126 q111 (by omega) _ _ w)) m ?_
 simp only[nm]
 refine tke 2 (.pointer (some ⟨K,0,none⟩)) rfl (zbe _ (.pointer (some ⟨K,0,none⟩)) (by rfl) rfl rfl) m ?_
 simp only[nm]
 refine wpAnyH_ready (rs:=[3]) (by kernel_rfl) (by simp) (AllReadyH.cons rfl (fun K0 p=>?_) AllReadyH.nil)
 go_simp
 have c:=jh (c.o.below (Ext.drew ai))
 refine(rq_raw K 236 64 _ ai.drew (f.o.ext (Ext.drew _)) (j.o.below c.o.ext) t.o).mono ?_
 rintro e b0 ⟨rv,rfl,r,g,d,_⟩
 obtain⟨ar,cr,N,_⟩:=id r
 rw[q100]at N
 subst N
 obtain⟨L,f,c⟩:=jq3 r g (c.o.grow d)
 clear r g d
 refine p.o _ _ trivial (fun m=>?_)
 clear p K0
 try simp only[nm]
 refine wpAnyH_ready (rs:=[4]) (by kernel_rfl) (by simp) (AllReadyH.cons rfl (fun K0 p=>?_) AllReadyH.nil)
 refine zan (by rfl) ?_
 refine zbu _ _ 24 24 rfl 5 q104 one_u8c _ _ _ _ _ _ rfl rfl S 132 _ _ c.o.hs ((cuL b 236 64).map bval) (by rw[q100];exact(q140 zcl).symm) (fun h=>⟨rfl,row_src L.o (cuL b 236 64) (by rw[q133]) (q101 _) (Ext.refl _) h⟩) (by have:=@zcl b 236 64;rw[q100,zba c.o.arr];omega) (zac _) ?_
 intro a8 E F
 rw[cu_sig (a:=c.o.arr) rfl]at E
 have f:=jh (f.o.far F c.o.oc.2.2.2.2.2.symm)
 have c:=jh (c.o.put F E (put_sig c.o.arr (zck _ _ _)) rfl)
 clear E F L
 refine p.o _ _ trivial (fun m=>?_)
 clear p K0 m
 try simp only[nm]
 refine dne ?_
 have c:Hid (RM w a8 C K S (manU b) wv W R):=c
 obtain⟨Q,a9⟩:=jq2 c.o.size (rBody_any (manU b) wv a8 c.o.arr c.o.hw)
 go_wp2_with (refine wpList_load_mid rfl _ _ rfl S 0 rfl _ _ c.o.hs.range q118 rfl Q.o ?_)
 refine a9.o.mono ?_
 rintro e am ⟨x,rfl,_,q⟩
 obtain⟨f,c⟩:=jq2 (f.o.ext q) (c.o.below q)
 clear q a9
 have ap:=zco (P:=Tryz.prog) (v:=W) 24 9 5 q104 q113 q147 c.o.ht
 have H:=jh (zcj zcx (.slice none 0 0))
 have u:=jh (fun h=>mread_none (@mread_no b h))
 have G:=jh (fun h1 h2 h3=>mread_is (@mread_yes b h1 h2 h3))
 rw[←aj.o]at u G
 by_cases i:R=[80,67,77,49]
 ·have a4:=jh (rq_end K 300 _ am f.o (j.o.below c.o.ext))
  obtain⟨en,Z⟩:=nxq (decide (b.length=300))
  rw[←Z]at a4
  have O:=jh Z
  clear Z
  have au:=jh i
  subst i
  go_wp2_with fail
  refine a4.o.mono ?_
  rintro e az ⟨rfl,q⟩
  have c:=jh (c.o.below q)
  clear q ap a4 f
  cases en with
  |false=>
   have l:=jh (u.o (fun h=>by have:=of_decide_eq_false O.o.symm;exact this h.2.1))
   clear O u G
   go_wp2_with (first|(refine zch rfl _ _ rfl _ rfl _ (build_man0 _) ?_)|(refine ssb C (manC manZ (.slice none 0 0)) c.o.hc rfl H.o (zda rfl) ?_;intro X A z))
   refine bodyPost_ret (zau rfl _ C _ _ _ rfl A q118 rfl H.o) rfl ?_
   exact⟨.slice none 0 0,by rw[l.o.1,l.o.2];rfl,by rw[l.o.1];exact Row1.nil _,zab c.o.ext z c.o.oc.1⟩
  |true=>
   cases hok:(manU b).ok with
   |false=>
    have l:=jh (u.o (fun h=>by rw[hok]at h;cases h.2.2))
    have a3:(manU b).err=1:=if_neg (by rw[hok];simp)
    clear O u G hok
    rw[a3]
    go_wp2_with (first|(refine zch rfl _ _ rfl _ rfl _ (build_man0 _) ?_)|(refine ssb C (manC manZ (.slice none 0 0)) c.o.hc rfl H.o (zda rfl) ?_;intro X A z))
    refine bodyPost_ret (zau rfl _ C _ _ _ rfl A q118 rfl H.o) rfl ?_
    exact⟨.slice none 0 0,by rw[l.o.1,l.o.2];rfl,by rw[l.o.1];exact Row1.nil _,zab c.o.ext z c.o.oc.1⟩
   |true=>
    have l:=jh (G.o au.o (of_decide_eq_true O.o.symm) hok)
    have a3:(manU b).err=0:=if_pos hok
    clear O u G hok
    rw[a3]
    go_wp2_with (first|(refine wpList_load_mid rfl _ _ rfl S 0 rfl _ _ c.o.hs.range q118 rfl Q.o ?_)|(refine ssb C (manC (manU b) wv) c.o.hc (by rw[zba c.o.arr,zba zcx]) Q.o (zda (row_cell c.o.hw)) ?_;intro X A z))
    refine bodyPost_ret (zau rfl _ C _ _ _ rfl A q118 rfl Q.o) rfl ?_
    exact⟨wv,by rw[l.o.1,l.o.2];rfl,by rw[l.o.1];exact c.o.hw.grown z (fun k e e2=>(c.o.hwo k e2).1 (Option.some.inj e).symm),zab c.o.ext z c.o.oc.1⟩
 have l:=jh (u.o (fun h=>i h.1))
 have ay:(R==[80,67,77,49])=false:=by simpa using i
 clear u G
 go_wp2_with (first|(refine zch rfl _ _ rfl _ rfl _ (build_man0 _) ?_)|(refine ssb C (manC manZ (.slice none 0 0)) c.o.hc rfl H.o (zda rfl) ?_;intro X A z))
 refine bodyPost_ret (zau rfl _ C _ _ _ rfl A q118 rfl H.o) rfl ?_
 exact⟨.slice none 0 0,by rw[l.o.1,l.o.2];rfl,by rw[l.o.1];exact Row1.nil _,zab c.o.ext z c.o.oc.1⟩
theorem manReads_any(b:List UInt8)(U:Value)(w:World)(c:Row1 w U (b.map bval))(C:GI w∧GlobR w):
  Calls Tryz.prog 4 #[U] w fun e F=>e=.returned (.bool true)∧Below w.heap.size w F:=by
 obtain⟨i0,O,G,I,L⟩:=info_parts Tryz.info5
 obtain⟨W,X,D,B⟩:=jq4 O G I L
 clear O G I L
 obtain⟨ab,cb,T,_⟩:=id c
 rw[q100]at T
 subst T
 obtain⟨x,V,J⟩:=jq3 c C (alive_any17 w C.1)
 clear c C
 go_enter Tryz.func4,Tryz.ntmps4
 go_wp2_with fail
 refine J.o.mono ?_
 rintro e S ⟨rfl,c⟩
 have a:Hid (Ext w S):=jh c
 clear c J
 by_cases hl:1000<b.length
 ·have H:decide ((1000:Int)<(b.length:Int))=true:=decide_eq_true (by omega)
  have a0:(1000:Int)<(b.length:Int):=by omega
  go_wp2_with fail
  go_ret
  exact⟨rfl,a.o⟩
 have H:decide ((1000:Int)<(b.length:Int))=false:=decide_eq_false (by omega)
 have i:Hid (b.length≤1000):=jh (by omega)
 go_wp2_with (at_builtin;refine zad rfl _ _ 24 rfl S.heap.size 5 i0 (.int .u8 0) 1 q104 W.o X.o D.o B.o rfl (.slice none 0 0) 0 [] rfl (World.ownsRow_nil _ _ _ _) rfl (x.o.below a.o) (zac _) (by have:=i.o;rw[q100];unfold maxLen;omega) (by have:=i.o;rw[q100];omega) (q101 _) ?_;intro Z R A K)
 rw[q115]at A
 have Q:=jh (Row1.of_own A)
 have a:Hid (Ext w R):=jh (a.o.trans (zbf (Ext.refl _) (World.ownsRow_nil _ _ 5 _) (q101 _) K))
 clear A K hl H
 refine(mRead_any b Z R Q.o (by have:=i.o;omega)).mono ?_
 rintro e y ⟨wv,rfl,t,c⟩
 have f:=jh t
 have a:=xxt a c
 have g:=jh (readM_arr b)
 clear t c Q
 have M:=jh (fun (w:World) (h:Row1 w (.slice ab b.length cb) (b.map bval))=>rReadManifest_any b _ w h (by have:=i.o;omega))
 generalize readM b=m at*
 generalize readE b=E at*
 obtain⟨p,q,u⟩:=jq3 (Blk.made y (manC manZ (.slice none 0 0)) 30) (Ext.alloc y (.cells (manC manZ (.slice none 0 0)).toArray 30)) (zcj g.o wv)
 have v:Hid ((manC m wv).length=(manC manZ (.slice none 0 0)).length):=jh (by rw[zba g.o,zba zcx])
 have n:=jh (zda (m:=m) (row_cell f.o))
 go_upto_region 5 with(refine ssb y.heap.size (manC m wv) p.o v.o u.o n.o ?_;intro w4 l r)
 have j:=jh l
 have d:=jh (zab q.o r (q101 _))
 have a:=xxt a d.o
 generalize y.heap.size=Y at*
 clear l r p q u v n
 have f:=jh (f.o.below d.o)
 go_wp2_with fail
 refine(M.o w4 (x.o.below a.o)).mono ?_
 rintro e z ⟨k,rfl,t,c⟩
 obtain⟨s,f⟩:=jq2 t (f.o.below c)
 have j:=xxb j c
 have a:=xxt a c
 clear t c M d
 obtain⟨p,q,u⟩:=jq3 (Blk.made z (manC manZ (.slice none 0 0)) 30) (Ext.alloc z (.cells (manC manZ (.slice none 0 0)).toArray 30)) (zcj g.o k)
 have v:Hid ((manC m k).length=(manC manZ (.slice none 0 0)).length):=jh (by rw[zba g.o,zba zcx])
 have n:=jh (zda (m:=m) (row_cell s.o))
 go_upto_region 6 with(refine ssb z.heap.size (manC m k) p.o v.o u.o n.o ?_;intro P l r)
 have N:=jh l
 have d:=jh (zab q.o r (q101 _))
 have a:=xxt a d.o
 generalize z.heap.size=T6 at*
 clear l r p q u v n
 obtain⟨f,s⟩:=jq2 (f.o.below d.o) (s.o.below d.o)
 have j:=xxb j d.o
 obtain⟨D,B⟩:=jq2 (zcj g.o wv) (zcj g.o k)
 clear d
 go_wp2_with fail
 refine(num17 E P).mono ?_
 rintro e F ⟨rfl,rfl⟩
 go_wp2_with (first|(refine zdi (by rfl) _ _ rfl Y 0 rfl _ _ j.o.range q118 D.o ?_)|(refine zdi (by rfl) _ _ rfl T6 0 rfl _ _ N.o.range q118 B.o ?_))
 refine(rSame_self m wv k P g.o f.o s.o).mono ?_
 rintro e w7 ⟨rfl,c⟩
 have a:=xxt a c
 clear c j N f s
 go_wp2_with fail
 refine(mName_any _ b w7 (x.o.below a.o) (by have:=i.o;omega) (V.o.2.ext a.o)).mono ?_
 rintro e w8 ⟨rfl,c⟩
 have a:=xxt a c
 clear c
 go_wp2_with fail
 refine(zdp _ b w8 (x.o.below a.o) (by have:=i.o;omega) (V.o.1.1.ext a.o)).mono ?_
 rintro e w9 ⟨rfl,c⟩
 have a:=xxt a c
 clear c
 go_wp2_with (first|(refine zdv (by rfl) .eql 23 _ _ _ _ _ _ (sha256 b) (sha256 b) true rfl (Or.inl ⟨rfl,decide_eq_true rfl⟩) q102 q113 zdq zcd zdn rfl rfl (zbc _) (zbc _) ?_))
 go_ret
 exact⟨rfl,a.o⟩
end Go.Proofs.YtgnfdonbholcdaaGreatDoor


