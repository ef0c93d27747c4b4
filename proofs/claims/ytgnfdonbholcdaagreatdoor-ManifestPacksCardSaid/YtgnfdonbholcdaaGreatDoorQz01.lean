/- Lemmas. -/
import Derived.WalkKit
import Derived.WalkSpells
import Derived.WalkLawsBesides
import Derived.Lib.Hide
import Derived.Deep.QuietTactic
import Derived.BigQuiet
import Derived.Deep.RegionHeld3
import Derived.Deep.AppendLies
import Derived.OneCell
import Derived.Deep.RegionHeld
import Derived.KernelRfl
import Derived.ProofKit
import Derived.Deep.Slices
import Derived.Laws.Cover2
import Derived.OpenShut
import Derived.Test.YtgnfdonbholcdaaGreatDoorRows
import Derived.Deep.MidRow
import Derived.LaidMore
import Derived.Stop.Joined
import Derived.SevenTiedAt
import Derived.Deep.Quiet
import Derived.OrdersHeld
import Derived.ChangeKeysEq
import Derived.Laws.ResultCell
import Derived.Great.BuildSlice
import Derived.Laws.Tables
import Derived.Deep.CutRange
import Derived.Deep.RegionWith
import Derived.ScopeJumps
import Derived.Control
import Derived.StillTailTactics
import Derived.WalkMore
import Derived.Deep.Strs
import Derived.Laws.CopyOwn
import Derived.Laws.MakeOwn
import Derived.Lib.SlBytesConst
import Derived.Laws.Slices
import Derived.Laws.Entries
import Derived.Laws.OwnMore
import Derived.Deep.Onto
import Derived.Laws.AppendOwn
import Derived.LoopN
import Derived.Laws.StructEq
import Derived.Lib.AppendStr
import Derived.Lib.AppendZeros
import Derived.Lib.Mul64
import Derived.Laws.Bits64b
import Derived.Laws.Externs
import Derived.Lib.LazyBuf
import Derived.Lib.ConvBytes
namespace Go.Proofs.YtgnfdonbholcdaaGreatDoor
set_option linter.unusedVariables false
set_option maxRecDepth 100000
set_option maxHeartbeats 32000000
set_option linter.unusedSimpArgs false
open Go.RowKit
theorem q100:type_of%@List.length_map:=@List.length_map
theorem q101:type_of%@Nat.le_refl:=@Nat.le_refl
theorem q102:type_of%@Tryz.underlying23:=@Tryz.underlying23
theorem q103:type_of%@Tryz.underlying124:=@Tryz.underlying124
theorem q104:type_of%@Tryz.underlying24:=@Tryz.underlying24
theorem q105:type_of%@List.length_append:=@List.length_append
theorem q106:type_of%@List.length_cons:=@List.length_cons
theorem q107:type_of%@List.length_take:=@List.length_take
theorem q108:type_of%@List.take_of_length_le:=@List.take_of_length_le
theorem q109:type_of%@List.append_assoc:=@List.append_assoc
theorem q110:type_of%@List.map_append:=@List.map_append
theorem q111:type_of%@Tryz.sizeOf5:=@Tryz.sizeOf5
theorem q112:type_of%@List.length_replicate:=@List.length_replicate
theorem q113:type_of%@Tryz.underlying5:=@Tryz.underlying5
theorem q114:type_of%@Nat.lt_or_ge:=@Nat.lt_or_ge
theorem q115:type_of%@List.nil_append:=@List.nil_append
theorem q116:type_of%@Nat.lt_of_lt_of_le:=@Nat.lt_of_lt_of_le
theorem q117:type_of%@Nat.zero_add:=@Nat.zero_add
theorem q118:type_of%@Tryz.underlying30:=@Tryz.underlying30
theorem q119:type_of%@Nat.le_trans:=@Nat.le_trans
theorem q120:type_of%@List.length_drop:=@List.length_drop
theorem q121:type_of%@List.length_nil:=@List.length_nil
theorem q122:type_of%@Tryz.zeroValue124:=@Tryz.zeroValue124
theorem q123:type_of%@Nat.mod_eq_of_lt:=@Nat.mod_eq_of_lt
theorem q124:type_of%@Int.pow_succ:=@Int.pow_succ
theorem q125:type_of%@List.length_set:=@List.length_set
theorem q126:type_of%@Tryz.underlying26:=@Tryz.underlying26
theorem q127:type_of%@Tryz.sizeOf69:=@Tryz.sizeOf69
theorem q128:type_of%@Tryz.isAgg69:=@Tryz.isAgg69
theorem q129:type_of%@List.append_nil:=@List.append_nil
theorem q130:type_of%@List.take_append_drop:=@List.take_append_drop
theorem q131:type_of%@Tryz.underlying102:=@Tryz.underlying102
theorem q132:type_of%@Nat.pow_succ:=@Nat.pow_succ
theorem q133:type_of%@List.take_length:=@List.take_length
theorem q134:type_of%@Nat.mul_comm:=@Nat.mul_comm
theorem q135:type_of%@List.map_nil:=@List.map_nil
theorem q136:type_of%@List.size_toArray:=@List.size_toArray
theorem q137:type_of%@Tryz.underlying126:=@Tryz.underlying126
theorem q138:type_of%@Tryz.zeroValue23:=@Tryz.zeroValue23
theorem q139:type_of%@List.map_cons:=@List.map_cons
theorem q140:type_of%@Nat.min_eq_left:=@Nat.min_eq_left
theorem q141:type_of%@List.map_set:=@List.map_set
theorem q142:type_of%@Nat.and_two_pow_sub_one_eq_mod:=@Nat.and_two_pow_sub_one_eq_mod
theorem q143:type_of%@List.take_succ_eq_append_getElem:=@List.take_succ_eq_append_getElem
theorem q144:type_of%@Tryz.underlying229:=@Tryz.underlying229
theorem q145:type_of%@Nat.zero_le:=@Nat.zero_le
theorem q146:type_of%@World.block_lt_of_cell? :=@World.block_lt_of_cell?
theorem q147:type_of%@Tryz.underlying9:=@Tryz.underlying9
theorem q148:type_of%@Nat.mul_one:=@Nat.mul_one
theorem q149:type_of%@Nat.add_zero:=@Nat.add_zero
theorem q150:type_of%@List.set_cons_zero:=@List.set_cons_zero
theorem q151:type_of%@Nat.eq_zero_or_pos:=@Nat.eq_zero_or_pos
theorem q152:type_of%@List.set_cons_succ:=@List.set_cons_succ
theorem q153:type_of%@Tryz.underlying107:=@Tryz.underlying107
theorem q154:type_of%@List.eq_nil_of_length_eq_zero:=@List.eq_nil_of_length_eq_zero
theorem q155:type_of%@Int.mul_nonneg:=@Int.mul_nonneg
theorem q156:type_of%@Tryz.underlying3:=@Tryz.underlying3
theorem q157:type_of%@Tryz.sizeOf147:=@Tryz.sizeOf147
theorem q158:type_of%@Tryz.isAgg147:=@Tryz.isAgg147
theorem q159:type_of%@Int.emod_eq_of_lt:=@Int.emod_eq_of_lt
theorem q160:type_of%@Nat.div_eq_of_lt:=@Nat.div_eq_of_lt
theorem q161:type_of%@List.set_append_right:=@List.set_append_right
theorem q162:type_of%@List.drop_drop:=@List.drop_drop
theorem q163:type_of%@Tryz.underlying185:=@Tryz.underlying185
theorem q164:type_of%@Tryz.underlying72:=@Tryz.underlying72
theorem q165:type_of%@Tryz.underlying70:=@Tryz.underlying70
theorem q166:type_of%@List.take_append_of_le_length:=@List.take_append_of_le_length
theorem q167:type_of%@Tryz.underlying28:=@Tryz.underlying28
theorem q168:type_of%@List.ext_getElem:=@List.ext_getElem
theorem q169:type_of%@Tryz.underlying55:=@Tryz.underlying55
theorem q170:type_of%@Tryz.underlying145:=@Tryz.underlying145
theorem q171:type_of%@List.mem_cons_of_mem:=@List.mem_cons_of_mem
theorem q172:type_of%@Nat.div_div_eq_div_mul:=@Nat.div_div_eq_div_mul
theorem q173:type_of%@List.take_succ_cons:=@List.take_succ_cons
theorem q174:type_of%@List.drop_eq_nil_of_le:=@List.drop_eq_nil_of_le
theorem q175:type_of%@List.drop_eq_getElem_cons:=@List.drop_eq_getElem_cons
theorem nrm {α:Type}:(∀(l:List α) (i:Nat) (h:i<l.toArray.size),l.toArray[i]=l[i]'(by simpa using h))∧(∀(a:α) (l:List α) (h:0<(a::l).length),(a::l)[0]=a)∧(∀(a:α) (l:List α) (i:Nat) (h:i+1<(a::l).length),(a::l)[i+1]=l[i]'(by simpa using h))∧
  (∀(l:List α) (i:Nat) (a:α),l.toArray.setIfInBounds i a=(l.set i a).toArray)∧(∀(a b:α) (l:List α),(a::l).set 0 b=b::l)∧(∀(a b:α) (l:List α) (i:Nat),(a::l).set (i+1) b=a::l.set i b):=
 ⟨fun _ _ _=>by simp,fun _ _ _=>rfl,fun _ _ _ _=>rfl,fun _ _ _=>by simp,fun _ _ _=>rfl,fun _ _ _ _=>rfl⟩
theorem nm:(∀(a:Act) (i:Nat) (v:Value),a.put (some i) v={ a with tmps:=a.tmps.setIfInBounds i v })∧(∀(a:Act) (v:Value),a.put none v=a)∧
  (∀(l:List Value) (i:Nat) (a:Value),l.toArray.setIfInBounds i a=(l.set i a).toArray)∧(∀(a b:Value) (l:List Value),(a::l).set 0 b=b::l)∧(∀(a b:Value) (l:List Value) (i:Nat),(a::l).set (i+1) b=a::l.set i b)∧
  (∀(l:List Oper) (i:Nat) (h:i<l.toArray.size),l.toArray[i]=l[i]'(by simpa using h))∧(∀(a:Oper) (l:List Oper) (h:0<(a::l).length),(a::l)[0]=a)∧(∀(a:Oper) (l:List Oper) (i:Nat) (h:i+1<(a::l).length),(a::l)[i+1]=l[i]'(by simpa using h))∧
  (∀(l:List Value) (i:Nat) (h:i<l.toArray.size),l.toArray[i]=l[i]'(by simpa using h))∧(∀(a:Value) (l:List Value) (h:0<(a::l).length),(a::l)[0]=a)∧(∀(a:Value) (l:List Value) (i:Nat) (h:i+1<(a::l).length),(a::l)[i+1]=l[i]'(by simpa using h)):=
 ⟨fun _ _ _=>rfl,fun _ _=>rfl,fun _ _ _=>by simp,fun _ _ _=>rfl,fun _ _ _ _=>rfl,fun _ _ _=>by simp,fun _ _ _=>rfl,fun _ _ _ _=>rfl,fun _ _ _=>by simp,fun _ _ _=>rfl,fun _ _ _ _=>rfl⟩
theorem jh {p:Prop}(h:p):RowKit.Hid p:=Lib.hid h
theorem jq2 {b a:Prop}(h0:b)(h1:a):Hid b∧Hid a:=⟨h0,h1⟩
theorem jq3 {c a b:Prop}(h0:c)(h1:a)(h2:b):Hid c∧Hid a∧Hid b:=⟨h0,h1,h2⟩
theorem jq4 {c a b d:Prop}(h0:c)(h1:a)(h2:b)(e:d):Hid c∧Hid a∧Hid b∧Hid d:=⟨h0,h1,h2,e⟩
theorem jq5 {c a b e d:Prop}(h0:c)(h1:a)(h2:b)(f:e)(g:d):Hid c∧Hid a∧Hid b∧Hid e∧Hid d:=⟨h0,h1,h2,f,g⟩
theorem jq6 {c a b e d f:Prop}(h0:c)(h1:a)(h2:b)(g:e)(i:d)(h:f):Hid c∧Hid a∧Hid b∧Hid e∧Hid d∧Hid f:=⟨h0,h1,h2,g,i,h⟩
theorem nxq {α:Type} (a:α):∃b,b=a:=⟨a,rfl⟩
theorem _root_.Go.RowKit.Hid.o {p:Prop}(h:Hid p):p:=h
theorem _root_.Go.Shut.o {p:Prop}(h:Shut p):p:=h
theorem rdy {P:Program} {b:Array Oper} {Q:Exit→Act→World→Prop} {md:Region.Mode} {S:World→Prop} {fuel:Nat} {d:Array Bool} {a:Act} {w:World}(i:Nat) {o:Oper}(e:b[i]? =some o)
  (k:∀c:Act→World→Prop,Shut (∀a w,S w→(S w→wpAnyH P md b Q S fuel (d.setIfInBounds i true) a w)→c a w)→if Region.wanted o (yielded b a.tmps)=true then Oper.wp P o a w c Q else c (a.put o.dst undef) w)
  (f:Region.ready md b d=[i]:=by kernel_rfl):wpAnyH P md b Q S (fuel+1) d a w:=
 wpAnyH_ready (rs:=[i]) f (by simp) (AllReadyH.cons e k AllReadyH.nil)
theorem tke {P:Program} {b:Array Oper} {Q:Exit→Act→World→Prop} {md:Region.Mode} {S:World→Prop} {fuel:Nat} {e:Array Bool} {a:Act} {w:World}(i:Nat)(v:Value) {d:Oper}(f:b[i]? =some d)
  (y:YieldsIf P b S d v a) (j:S w) (k:wpAnyH P md b Q S fuel (e.setIfInBounds i true) (a.put d.dst v) w)
  (h1:Region.noSelect b=true:=by kernel_rfl) (h2:Region.free md b e i=true:=by kernel_rfl) (g:(Region.ready md b e).contains i=true:=by kernel_rfl)
  (l:∀(c:List PanicEntry) (a:Act) (w:World),Q (.panic c) (a.put d.dst v) w→Q (.panic c) a w:=by exact fun _ _ _ h=>h):wpAnyH P md b Q S (fuel+1) e a w:=
 wpAnyH_take (i:=i) (v:=v) f h1 h2 g l y j k
theorem dne {P:Program} {b:Array Oper} {Q:Exit→Act→World→Prop} {md:Region.Mode} {S:World→Prop} {c:Array Bool} {a:Act} {w:World} {fuel:Nat}(k:Q .normal a w)(d:Region.ready md b c=[]:=by kernel_rfl):wpAnyH P md b Q S fuel c a w:=
 wpAnyH_done d k fuel
section
def Row1(w:World)(v:Value)(vs:List Value):Prop:=
 ∃a cap,v=.slice a vs.length cap∧vs.length≤cap∧cap≤maxLen∧(a=none→cap=0)∧(vs≠[]→∃b off,a=some ⟨b,off,none⟩∧b<w.heap.size∧∀i,i<vs.length→w.cell? ⟨b,off+i,none⟩=vs[i]?)
section
variable {P:Program} {w w':World} {v:Value} {vs:List Value}
theorem Row1.nil(w:World):Row1 w (.slice none 0 0) []:=⟨none,0,rfl,q101 _,q145 _,fun _=>rfl,fun h=>absurd rfl h⟩
theorem Row1.same(h:Row1 w v vs)(e:w.heap.size≤w'.heap.size)(g:∀p:Addr,v.ownBlock=some p.block→p.block<w.heap.size→w'.cell? p=w.cell? p):Row1 w' v vs:=by
 obtain⟨a,k,rfl,h1,h2,d,l⟩:=h
 refine⟨a,k,rfl,h1,h2,d,fun j=>?_⟩
 obtain⟨b,off,rfl,c,m⟩:=l j
 exact⟨b,off,rfl,q116 c e,fun i f=>(g ⟨b,off+i,none⟩ rfl c).trans (m i f)⟩
theorem Row1.below(h:Row1 w v vs)(a:Below w.heap.size w w'):Row1 w' v vs:=h.same a.size fun _ _ b=>a.cell b
theorem Row1.drew(h:Row1 w v vs):Row1 w.drew v vs:=h
theorem Row1.alloc(h:Row1 w v vs)(o:Obj):Row1 (w.alloc o) v vs:=h.below ((Below.refl _ _).alloc (q101 _) o)
theorem Row1.grown {row:Option Nat}(h:Row1 w v vs)(a:w.grownBy w' row)(b:∀k,row=some k→v.ownBlock≠some k):Row1 w' v vs:=
 h.same a.size fun p d c=>a.cell_far p c fun e=>b p.block e.symm d
theorem Row1.store(h:Row1 w v vs) {a:Addr}(b:v.ownBlock≠some a.block)(u:Value):Row1 (w.setCell a u) v vs:=by
 refine h.same (by simp) fun p c _=>?_
 refine World.cell?_of_block (w:=w) ?_
 exact Below.heap_setCell w a u p.block (fun e=>b (by rw[c,e]))
theorem below_drewN {B:Nat} {a:World}(h:Below B a w)(n:Nat):Below B a (w.drewN n):=h.trans ⟨rfl,rfl,rfl,q101 _,fun _ _=>rfl⟩
theorem Row1.of_own {base:Nat} {e:TypeId} {n:Nat}(h:w.ownsRow base e 1 v n vs):Row1 w v vs:=by
 have b:vs.length=n:=by have:=h.1;omega
 rcases h.2 with⟨rfl,h0⟩|⟨g,a,d,rfl,c,j,h1,h2,_,_⟩
 ·have:vs=[]:=q154 (by omega)
  subst this
  exact Row1.nil w
 refine⟨some ⟨g,0,none⟩,a,by rw[b],by omega,h2,(fun e=>by cases e),fun _=>⟨g,0,rfl,(h.lt g rfl).2,fun i f=>?_⟩⟩
 rw[q117]
 exact h.cellAt i (by omega)
theorem Row1.own_ne {base:Nat} {e:TypeId} {size n:Nat} {a:List Value} {x:Value}(h:w.ownsRow base e size x n a) {k:Nat}(b:k<base):x.ownBlock≠some k:=by
 intro e
 have:=(h.lt k e).1
 omega
theorem run_append_row(t ty e:TypeId)(i:TypeInfo)(z:Value)(k:Nat)(ht:P.underlying t=some (.slice e))(m:P.info? e=some i)(I:i.zero=some z)
  (s:i.size=1) (q:i.bytes=k) (F:z.cells.size=1) (base:Nat) (x:Value) (n:Nat) (g:List Value) (l:w.ownsRow base e 1 x n g)
  (J:Row1 w v vs) (h1:∀u∈vs,u.oneCell'=true) (C:n+vs.length≤maxLen) (p:(n+vs.length)*k≤140737488355328) (A:base≤w.heap.size):
  ∃f c,(Builtin.append_ #[t,t] ty #[x,v]).run P w=.ok f c∧c.ownsRow base e 1 f (n+vs.length) (g++vs)∧w.grownBy c x.ownBlock:=by
 obtain⟨a,D,rfl,R,Q,r,E⟩:=J
 cases a with
 |none=>
  have N:=r rfl
  have:vs=[]:=q154 (by omega)
  subst this
  subst N
  refine⟨x,w,run_append_owned_none w base t ty e i 1 ht m x n g l,?_,World.grownBy.refl _ _⟩
  simpa using l
 |some ad=>
  have B:∀j u,vs[j]? =some u→w.cell? (ad.add j)=some u:=by
   intro j u d
   have L:vs≠[]:=by intro e;subst e;simp at d
   obtain⟨b,off,K,O,M⟩:=E L
   cases K
   have y:j<vs.length:=by
    rcases q114 j vs.length with h|h
    ·exact h
    rw[List.getElem?_eq_none h]at d;cases d
   rw[WideShapes.add_plain,M j y,d]
  obtain⟨f,c,H,h2,G,_⟩:=run_append_own (P:=P) w base t ty e i z 1 k ht m I s q F (by omega) x n g l ad vs.length D vs (by omega) B h1 C p A
  exact⟨f,c,H,h2,G⟩
theorem zbh {o:Oper} {a:Act} {K:Act→World→Prop} {Q:Exit→Act→World→Prop}(s y:Operand)(t:TypeId)
  (g:o.op=.call { callee:=.builtin .append,args:=#[s,y],argTypes:=#[t,t] })
  (base:Nat) (e:TypeId) (i:TypeInfo) (z:Value) (d:Nat) (ht:P.underlying t=some (.slice e)) (A:P.info? e=some i) (E:i.zero=some z)
  (l:i.size=1) (k:i.bytes=d) (r:z.cells.size=1)
  (x:Value) (n:Nat) (f:List Value) (D:a.eval s=x) (F:w.ownsRow base e 1 x n f)
  (m:a.eval y=v) (G:Row1 w v vs) (h1:∀u∈vs,u.oneCell'=true)
  (q:n+vs.length≤maxLen) (j:(n+vs.length)*d≤140737488355328) (p:base≤w.heap.size)
  (h:∀c b,b.ownsRow base e 1 c (n+vs.length) (f++vs)→w.grownBy b x.ownBlock→K (a.put o.dst c) b):o.wp P a w K Q:=by
 obtain⟨c,b,C,h2,B⟩:=run_append_row (P:=P) (w:=w) t o.type e i z d ht A E l k r base x n f F G h1 q j p
 unfold Oper.wp execOp
 simp only[g,resolve,invoke,builtin,Sem.run_bind,Sem.run_pure,Result.andThen_ok,List.map_toArray,q139,q135,D,m,C]
 exact h c b h2 B
theorem zad {g:Array Oper} {rest:List Oper} {o:Oper} {a:Act} {Q:Exit→Act→World→Prop}(p:o.guard=none)(s y:Operand)(t:TypeId)
  (j:o.op=.call { callee:=.builtin .append,args:=#[s,y],argTypes:=#[t,t] })
  (base:Nat) (e:TypeId) (i:TypeInfo) (z:Value) (d:Nat) (ht:P.underlying t=some (.slice e)) (C:P.info? e=some i) (G:i.zero=some z)
  (m:i.size=1) (l:i.bytes=d) (B:z.cells.size=1)
  (x:Value) (n:Nat) (f:List Value) (F:a.eval s=x) (H:w.ownsRow base e 1 x n f)
  (q:a.eval y=v) (I:Row1 w v vs) (h1:∀u∈vs,u.oneCell'=true)
  (A:n+vs.length≤maxLen) (k:(n+vs.length)*d≤140737488355328) (r:base≤w.heap.size)
  (h:∀c b,b.ownsRow base e 1 c (n+vs.length) (f++vs)→w.grownBy b x.ownBlock→wpList P g Q rest (a.put o.dst c) b):wpList P g Q (o::rest) a w:=
 wpList_plain p fun _ D=>zbh s y t j base e i z d ht C G m l B x n f F H q I h1 A k r fun c b h2 E=>D _ _ (h c b h2 E)
theorem Row1.made(w:World)(c:Array Value)(e:TypeId)(n m:Nat)(l:List Value)(a:w.heap.size=n)(b:c.toList=l)(f:l.length=m)(d:m≤maxLen):Row1 (w.alloc (.cells c e)) (.slice (some ⟨n,0,none⟩) m m) l:=by
 subst a;subst f;subst b
 refine⟨_,_,rfl,q101 _,d,(fun e=>by cases e),fun _=>⟨w.heap.size,0,rfl,by simp,fun i g=>?_⟩⟩
 rw[q117,World.cell?_alloc_at _ _ _ _ rfl]
 simp
theorem zbn {base:Nat} {e:TypeId} {size n:Nat} {b:List Value} {x:Value}(h:w.ownsRow base e size x n b)(c:Below w.heap.size w w'):w'.ownsRow base e size x n b:=by
 obtain⟨h1,h2⟩:=h
 refine⟨h1,?_⟩
 rcases h2 with h2|⟨g,j,f,l,k,a,d⟩
 ·exact Or.inl h2
 refine Or.inr ⟨g,j,f,l,k,?_,d⟩
 have i:g<w.heap.size:=by
  rcases q114 g w.heap.size with h|h
  ·exact h
  rw[Array.getElem?_eq_none h]at a;cases a
 rw[c.block g i,a]
theorem zbv {base b:Nat} {e:TypeId} {size n:Nat} {a:List Value} {x:Value}(h:w.ownsRow base e size x n a)(d:b≤base):w.ownsRow b e size x n a:=by
 obtain⟨h1,h2⟩:=h
 refine⟨h1,?_⟩
 rcases h2 with h2|⟨g,i,f,k,j,c⟩
 ·exact Or.inl h2
 exact Or.inr ⟨g,i,f,k,q119 d j,c⟩
def Blk(w:World)(c:Nat)(cs:List Value)(t:TypeId):Prop:=w.heap[c]? =some (.cells cs.toArray t (0,0))
theorem Blk.cell {c:Nat} {a:List Value} {t:TypeId}(h:Blk w c a t)(i:Nat):w.cell? ⟨c,i,none⟩=a[i]? :=by
 unfold Blk at h
 simp[World.cell?,h]
theorem Blk.free {c:Nat} {a:List Value} {t:TypeId}(h:Blk w c a t)(i:Nat):w.frozen? ⟨c,i,none⟩=false:=by
 unfold Blk at h
 simp[World.frozen?,h]
theorem Blk.lt {c:Nat} {a:List Value} {t:TypeId}(h:Blk w c a t):c<w.heap.size:=lt_of_block h
theorem Blk.set {c:Nat} {a:List Value} {t:TypeId}(h:Blk w c a t)(i:Nat)(u:Value):Blk (w.setCell ⟨c,i,none⟩ u) c (a.set i u) t:=by
 have:=heap_setCell_same w c i a.toArray t u h
 unfold Blk
 rw[this]
 simp
theorem Blk.same {c:Nat} {a:List Value} {t:TypeId}(h:Blk w c a t)(b:w'.heap[c]? =w.heap[c]?):Blk w' c a t:=b.trans h
theorem Blk.drewN {c:Nat} {a:List Value} {t:TypeId}(h:Blk w c a t)(n:Nat):Blk (w.drewN n) c a t:=h
theorem Blk.grown {c:Nat} {a:List Value} {t:TypeId} {row:Option Nat}(h:Blk w c a t)(d:w.grownBy w' row)(b:row≠some c):Blk w' c a t:=
 h.same (d.block c h.lt (fun e=>b e.symm))
theorem Blk.made(w:World)(a:List Value)(t:TypeId):Blk (w.alloc (.cells a.toArray t)) w.heap.size a t:=heap_alloc_new w _
theorem grownBy_trans {a b d:World} {row:Option Nat}(h:a.grownBy b row)(g:b.grownBy d row):a.grownBy d row:=
 ⟨g.os.trans h.os,g.tape.trans h.tape,g.output.trans h.output,q119 h.size g.size,fun k c e=>(g.block k (q116 c h.size) e).trans (h.block k c e)⟩
theorem zdu {a b:World} {row:Option Nat}(h:a.grownBy b none):a.grownBy b row:=
 ⟨h.os,h.tape,h.output,h.size,fun k c _=>h.block k c (by simp)⟩
theorem zav {a b:World} {c:Nat}(h:a.grownBy b (some c))(i:Nat)(u:Value):a.grownBy (b.setCell ⟨c,i,none⟩ u) (some c):=
 ⟨h.os,h.tape,h.output,by simpa[World.setCell]using h.size,fun k f d=>(heap_setCell_other b ⟨c,i,none⟩ k u (fun e=>d (by rw[e]))).trans (h.block k f d)⟩
theorem zbo {a b:World} {row:Option Nat}(h:a.grownBy b row)(n:Nat):a.grownBy (b.drewN n) row:=⟨h.os,h.tape,h.output,h.size,h.block⟩
theorem zay(a:World)(row:Option Nat):a.grownBy a row:=World.grownBy.refl a row
theorem Row1.sliced {ad:Addr} {len b:Nat}(h:Row1 w (.slice (some ad) len b) vs)(i n:Nat)(s:i+n≤vs.length):Row1 w (.slice (some (ad.add i)) n (b - i)) ((vs.drop i).take n):=by
 obtain⟨a,t,e,h1,h2,r,q⟩:=h
 cases e
 have c:((vs.drop i).take n).length=n:=by simp;omega
 refine⟨some (ad.add i),b - i,by rw[c],by rw[c];omega,by omega,(fun e=>by cases e),fun p=>?_⟩
 have j:vs≠[]:=by intro e;subst e;simp at p
 obtain⟨g,m,e,f,l⟩:=q j
 cases e
 refine⟨g,m+i,by rw[WideShapes.add_plain],f,fun k d=>?_⟩
 rw[c]at d
 rw[Nat.add_assoc,l (i+k) (by omega),List.getElem?_take,if_pos d,List.getElem?_drop]
theorem Row1.empty(w:World)(ad:Addr)(a:Nat)(b:a≤maxLen):Row1 w (.slice (some ad) 0 a) []:=
 ⟨some ad,a,rfl,q145 _,b,(fun e=>by cases e),fun h=>absurd rfl h⟩
def bval(b:UInt8):Value:=.int .u8 (b.toNat:Int)
theorem zac(l:List UInt8):∀u∈l.map bval,u.oneCell'=true:=by
 intro u a
 obtain⟨c,_,rfl⟩:=List.mem_map.1 a
 rfl
theorem foldl_bytes:∀(l:List UInt8) (s:ByteArray),((l.map fun b=>(b.toNat:Int)).foldl (fun r n=>r.push (UInt8.ofNat n.toNat)) s).data=s.data++l.toArray
 |[],s=>by simp
 |b::l,s=>by
  simp only[q139,List.foldl_cons]
  rw[foldl_bytes l]
  simp[ByteArray.push]
def RowB(w:World)(v:Value)(ls:List (List UInt8)):Prop:=
 ∃vals:List Value,Row1 w v vals∧vals.length=ls.length∧∀(i:Nat) (x:Value) (l:List UInt8),vals[i]? =some x→ls[i]? =some l→Row1 w x (l.map bval)
theorem RowB.below {b:List (List UInt8)}(h:RowB w v b)(a:Below w.heap.size w w'):RowB w' v b:=by
 obtain⟨d,h1,h2,c⟩:=h
 exact⟨d,h1.below a,h2,fun i x l e f=>(c i x l e f).below a⟩
theorem zco(d g e:TypeId)(q:P.underlying d=some (.slice e))(f:P.underlying e=some (.int .u8))(t:P.underlying g=some .string) {l:List UInt8}(h:Row1 w v (l.map bval)):
  (convert d g v).run P w=.ok (.string ⟨l.toArray⟩) w:=by
 obtain⟨a,i,rfl,C,A,s,x⟩:=h
 rw[run_convert_bytes_string w d g e a _ i q f t]
 cases a with
 |none=>
  have B:=s rfl
  have:l=[]:=by
   have:(l.map bval).length=0:=by omega
   exact q154 (by simpa using this)
  subst this
  rfl
 |some ad=>
  have k:(loadCells ad (l.map bval).length).run P w=.ok ((l.map fun b=>(b.toNat:Int)).map (Value.int .u8)).toArray w:=by
   rw[show (l.map fun b=>(b.toNat:Int)).map (Value.int .u8)=l.map bval from by simp[bval,Function.comp_def]]
   have:=run_loadCells_list (P:=P) (w:=w) ad (l.map bval) (fun j u c=>by
    have m:l.map bval≠[]:=by intro e;rw[e]at c;simp at c
    obtain⟨b,off,f,z,y⟩:=x m
    cases f
    have p:j<(l.map bval).length:=by
     rcases q114 j (l.map bval).length with h|h
     ·exact h
     rw[List.getElem?_eq_none h]at c;cases c
    rw[WideShapes.add_plain,y j p,c])
   exact this
  rw[run_bytesToString w ad _ i _ k]
  congr 2
  have:=foldl_bytes l ByteArray.empty
  generalize (List.foldl (fun r n=>r.push (UInt8.ofNat n.toNat)) ByteArray.empty (l.map fun b=>(b.toNat:Int)))=r at this⊢
  cases r
  simpa using this
end
end
section
open Go.ChangeShapes Go.WideShapes Go.ChangeAt Go.RowKit
theorem trodAll_len {H:Type} {enc:TypeId×Value→H} {P:Program} {w:World} {base:Nat} {k:Nat→Bool} {f:Bool}:
  ∀{e:List TypeId} {i:List Value} {c:List (DataW H)} {j:List MemPlace},DataW.TrodAll enc P w base k f e i c j→c.length=e.length
 |[],_,_,_,h=>by
  obtain⟨rfl,rfl,rfl⟩:=trodAll_nil h
  rfl
 |_::_,_,_,_,h=>by
  obtain⟨v,m,d,n,a,b,rfl,rfl,rfl,l,g⟩:=trodAll_cons h
  simp[trodAll_len g]
theorem trodAll_stays {H:Type} {enc:TypeId×Value→H} {P:Program}(i:laidOutB P=true) {W k:World} {base:Nat} {l:Nat→Bool}:
  ∀{f:List TypeId} {j:List Value} {g:List (DataW H)} {e:List MemPlace},(f.all fun t=>P.readableRec t && decide (t<P.types.size))=true→
  DataW.TrodAll enc P W base (fun _=>true) true f j g e→(∀p∈e,W.sameAt k p)→(∀p∈e,l p.block=true)→DataW.TrodAll enc P k base l true f j g e
 |[],_,_,_,_,h,_,_=>by
  obtain⟨rfl,rfl,rfl⟩:=trodAll_nil h
  exact trodAll_mk0
 |t::f,_,_,_,hr,h,h1,h2=>by
  obtain⟨v,u,d,x,a,b,rfl,rfl,rfl,q,n⟩:=trodAll_cons h
  rw[List.all_cons,Bool.and_eq_true,Bool.and_eq_true]at hr
  obtain⟨⟨s,r⟩,m⟩:=hr
  exact⟨a,b,WideElems.Trod_stays i s (of_decide_eq_true r) q (fun p c=>h1 p (List.mem_append_left _ c)) (fun p c=>h2 p (List.mem_append_left _ c)),
   trodAll_stays i m n (fun p c=>h1 p (List.mem_append_right _ c)) (fun p c=>h2 p (List.mem_append_right _ c)),rfl⟩
section
variable {H:Type} {enc:TypeId×Value→H} {P:Program} {W:World} {sp:Nat→Bool}
theorem row1_of_trod {t e:TypeId} {fuel:Nat} {v:Value} {y:DataW H×List MemPlace}(ht:P.underlying t=some (.slice e))(u:P.cellsOf e=1)
  (q:DataW.trod enc P W 0 (fun _=>true) true fuel t [v]=some y):
  ∃j:List Value,Row1 W v j∧∀x∈j,∃n y,DataW.trod enc P W 0 (fun _=>true) true n e [x]=some y:=by
 rcases Deep.open_slice1 ht u q with⟨f,_⟩|⟨d,c,l,m,n,V,D,F,f,E,s,B,r,_,a⟩
 ·obtain rfl:v=.slice none 0 0:=by simpa using f
  exact⟨[],Row1.nil W,fun x a=>by cases a⟩
 obtain rfl:v=.slice (some d) c l:=by simpa using f
 simp only[if_true]at r
 refine⟨(List.range c).map V,⟨some d,l,by simp,by simpa using s,B,(fun e=>by cases e),fun C=>?_⟩,?_⟩
 ·have h0:0<c:=by
   rcases q151 c with h|h
   ·subst h;exact absurd rfl C
   exact h
  obtain⟨b,off,A⟩:=d
  have p:A=none:=by simpa[Addr.add]using World.cell?_spot ((a 0 (by omega)).1)
  subst p
  refine⟨b,off,rfl,?_,fun i g=>?_⟩
  ·have:=(a 0 (by omega)).1
   exact q146 W _ this
  have k:i<c:=by simpa using g
  rw[←add_plain,(a i (by omega)).1]
  simp[k]
 intro x z
 obtain⟨i,g,rfl⟩:=List.mem_map.1 z
 have k:i<c:=by simpa using g
 exact⟨n,_,(a i (by omega)).2⟩
theorem cell_int {e:TypeId} {k:IntKind}(a:P.underlying e=some (.int k)) {n:Nat} {x:Value} {y:DataW H×List MemPlace}
  (h:DataW.trod enc P W 0 sp true n e [x]=some y):∃b,x=.int k b∧(Lit.int k b).wf=true:=by
 cases n with
 |zero=>simp[DataW.trod]at h
 |succ n=>
  unfold DataW.trod at h
  rw[a]at h
  cases x<;>simp at h
  rename_i c b
  obtain⟨⟨rfl,h2⟩,_⟩:=h
  exact⟨b,rfl,h2⟩
theorem list_of_all {α:Type} {f:α→Value} {p:α→Prop}:∀{d:List Value},(∀x∈d,∃a,x=f a∧p a)→∃l:List α,d=l.map f∧∀a∈l,p a
 |[],_=>⟨[],rfl,fun a h=>by cases h⟩
 |v::d,h=>by
  obtain⟨a,rfl,g⟩:=h v (List.mem_cons_self ..)
  obtain⟨l,rfl,i⟩:=list_of_all (fun x e=>h x (q171 _ e))
  exact⟨a::l,rfl,fun b c=>by
   rcases List.mem_cons.1 c with rfl|c
   ·exact g
   exact i b c⟩
theorem bytes_of_trod {t e:TypeId} {fuel:Nat} {v:Value} {y:DataW H×List MemPlace}(ht:P.underlying t=some (.slice e))(d:P.underlying e=some (.int .u8))(g:P.cellsOf e=1)
  (i:DataW.trod enc P W 0 (fun _=>true) true fuel t [v]=some y):∃l:List UInt8,Row1 W v (l.map bval):=by
 obtain⟨k,h1,h2⟩:=row1_of_trod ht g i
 obtain⟨l,rfl,_⟩:=list_of_all (f:=bval) (p:=fun _=>True) (fun x c=>by
  obtain⟨n,y,h⟩:=h2 x c
  obtain⟨b,rfl,a⟩:=cell_int d h
  have j:0≤b∧b≤255:=by simpa[Lit.wf,IntKind.min,IntKind.max,IntKind.signed,IntKind.bits]using a
  refine⟨UInt8.ofNat b.toNat,?_,trivial⟩
  unfold bval
  congr 1
  rw[UInt8.toNat_ofNat']
  omega)
 exact⟨l,h1⟩
end
theorem law_own:ownKnob Tryz.prog.godebug=none:=by kernel_rfl
theorem law_laid:laidOutB Tryz.prog=true:=by kernel_rfl
end
section
section
variable {P:Program} {w w':World}
def laid:List Value→Nat→List Value→List Value
 |cs,_,[]=>cs
 |cs,o,v::r=>laid (cs.set o v) (o+1) r
theorem laid_get:∀(b a:List Value) (o:Nat),o+b.length≤a.length→∀i,(laid a o b)[i]? =if o≤i∧i<o+b.length then b[i - o]? else a[i]?
 |[],a,o,h,i=>by simp[laid];omega
 |v::r,a,o,h,i=>by
  rw[q106]at h
  rw[laid,laid_get r _ _ (by simp;omega)]
  by_cases h1:i=o
  ·subst h1
   rw[if_neg (by omega),if_pos (by simp),List.getElem?_set_self (by omega)]
   simp
  by_cases h2:o+1≤i∧i<o+1+r.length
  ·rw[if_pos h2,if_pos (by rw[q106];omega),show i - o=(i - (o+1))+1 from by omega]
   simp
  rw[if_neg h2,if_neg (by rw[q106];omega),List.getElem?_set_ne (by omega)]
theorem laid_all(b a:List Value)(h:a.length=b.length):laid b 0 a=a:=by
 apply List.ext_getElem?
 intro i
 rw[laid_get _ _ _ (by omega)]
 by_cases c:i<a.length
 ·rw[if_pos (by omega)]
  simp
 rw[if_neg (by omega),List.getElem?_eq_none (by omega),List.getElem?_eq_none (by omega)]
theorem Blk.setCells {c:Nat} {t:TypeId}:∀(b:List Value) (a:List Value) (o:Nat) (w:World),Blk w c a t→Blk (w.setCells c o b) c (laid a o b) t
 |[],_,_,_,h=>h
 |v::r,a,o,w,h=>Blk.setCells r (a.set o v) (o+1) _ (h.set o v)
theorem zbm {c:Nat}:∀(d:List Value) (o:Nat) (a b:World),a.grownBy b (some c)→a.grownBy (b.setCells c o d) (some c)
 |[],_,_,_,h=>h
 |v::r,o,a,b,h=>zbm r (o+1) a _ (zav h o v)
theorem Blk.there {c:Nat} {a:List Value} {t:TypeId}(h:Blk w c a t)(n:Nat)(d:n≤a.length):w.there c 0 n:=fun j b=>by
 rw[q117]
 refine⟨?_,h.free j⟩
 rw[h.cell j,List.getElem?_eq_getElem (by omega)]
 rfl
theorem Blk.range {c:Nat} {a:List Value} {t:TypeId}(h:Blk w c a t):w.rangeAt c 0 a:=fun j v b=>by
 rw[q117,h.cell j,b]
theorem zbd {d:Array Oper} {rest:List Oper} {o:Oper} {a:Act} {Q:Exit→Act→World→Prop}(j:o.guard=none)(ty:TypeId)(x:Operand)(f:o.op=.load ty x)
  (c:Nat) (k:a.eval x=.pointer (some ⟨c,0,none⟩)) (t:TypeId) (b:List Value) (n:Nat) (e:TypeId) (g:Blk w c b t)
  (l:P.underlying ty=some (.array n e)) (i:(P.info? ty).map (·.size)=some b.length)
  (h:wpList P d Q rest (a.put o.dst (.agg b.toArray)) w):wpList P d Q (o::rest) a w:=
 wpList_load_mid j ty x f c 0 k b _ g.range l rfl i h
theorem zal {f:Array Oper} {rest:List Oper} {o:Oper} {a:Act} {Q:Exit→Act→World→Prop}(n:o.guard=none)(ty:TypeId)(x y:Operand)(i:o.op=.store ty x y)
  (c:Nat) (b:List Value) (k:a.eval x=.pointer (some ⟨c,0,none⟩)) (l:a.eval y=.agg b.toArray)
  (t:TypeId) (d:List Value) (g:Blk w c d t) (m:b.length=d.length) (j:(P.info? ty).map (·.size)=some b.length) (h1:∀v∈b,v.oneCell'=true)
  (h:∀e,Blk e c b t→w.grownBy e (some c)→wpList P f Q rest (a.put o.dst undef) e):wpList P f Q (o::rest) a w:=
 wpList_store_mid n ty x y i c 0 b.toArray k l (by simpa using g.there b.length (by omega)) (by simpa using j) (all_oneCell_toArray h1)
  (h _ (by simpa[laid_all d b m]using Blk.setCells b d 0 w g) (zbm _ 0 w w (zay w _)))
theorem zar {o:Oper} {a:Act} {K:Act→World→Prop} {Q:Exit→Act→World→Prop}(ty:TypeId)(x y:Operand)(g:o.op=.store ty x y)
  (c:Nat) (b:List Value) (j:a.eval x=.pointer (some ⟨c,0,none⟩)) (k:a.eval y=.agg b.toArray)
  (t:TypeId) (d:List Value) (f:Blk w c d t) (l:b.length=d.length) (i:(P.info? ty).map (·.size)=some b.length) (h1:∀v∈b,v.oneCell'=true)
  (h:∀e,Blk e c b t→w.grownBy e (some c)→K (a.put o.dst undef) e):o.wp P a w K Q:=
 wp_store_mid ty x y g c 0 b.toArray j k (by simpa using f.there b.length (by omega)) (by simpa using i) (all_oneCell_toArray h1)
  (h _ (by simpa[laid_all d b l]using Blk.setCells b d 0 w f) (zbm _ 0 w w (zay w _)))
theorem Blk.below {c:Nat} {a:List Value} {t:TypeId}(h:Blk w c a t)(b:Below w.heap.size w w'):Blk w' c a t:=h.same (b.block _ h.lt)
theorem zam {b:Func} {p:Tmp} {ty:TypeId}(h:b.results=#[.cell p ty])(tmps:Array Value)(c:Nat)(t:TypeId)(a:List Value)(n:Nat)(e:TypeId)
  (f:tmps.getD p undef=.pointer (some ⟨c,0,none⟩)) (d:Blk w c a t) (i:P.underlying ty=some (.array n e)) (g:(P.info? ty).map (·.size)=some a.length):
  (results b tmps).run P w=.ok (.agg a.toArray) w:=
 results_cell_row h tmps w c t a.toArray (0,0) _ f d i rfl (by simpa using g)
theorem Blk.far {c:Nat} {b:List Value} {t:TypeId} {a:Addr}(h:Blk w c b t)(d:a.block≠c)(v:Value):Blk (w.setCell a v) c b t:=
 h.same (heap_setCell_other w a c v (fun e=>d e.symm))
theorem Blk.alloc {c:Nat} {a:List Value} {t:TypeId}(h:Blk w c a t)(o:Obj):Blk (w.alloc o) c a t:=h.same (heap_alloc_old w o h.lt)
theorem boxes2(w:World)(a b:List Value)(s t:TypeId):Blk ((w.alloc (.cells a.toArray s)).alloc (.cells b.toArray t)) w.heap.size a s∧Blk ((w.alloc (.cells a.toArray s)).alloc (.cells b.toArray t)) (w.heap.size+1) b t∧
  Below w.heap.size w ((w.alloc (.cells a.toArray s)).alloc (.cells b.toArray t)):=by
 refine⟨(Blk.made w a s).alloc _,?_,((Below.refl _ _).alloc (q101 _) _).alloc (by simp) _⟩
 have:=Blk.made (w.alloc (.cells a.toArray s)) b t
 simpa using this
theorem boxes3(w:World)(a b c:List Value)(s t u:TypeId):Blk (((w.alloc (.cells a.toArray s)).alloc (.cells b.toArray t)).alloc (.cells c.toArray u)) w.heap.size a s∧Blk (((w.alloc (.cells a.toArray s)).alloc (.cells b.toArray t)).alloc (.cells c.toArray u)) (w.heap.size+1) b t∧
  Blk (((w.alloc (.cells a.toArray s)).alloc (.cells b.toArray t)).alloc (.cells c.toArray u)) (w.heap.size+1+1) c u∧Below w.heap.size w (((w.alloc (.cells a.toArray s)).alloc (.cells b.toArray t)).alloc (.cells c.toArray u)):=by
 obtain⟨h1,h2,d⟩:=boxes2 w a b s t
 refine⟨h1.alloc _,h2.alloc _,?_,d.alloc (by simp;omega) _⟩
 have:=Blk.made ((w.alloc (.cells a.toArray s)).alloc (.cells b.toArray t)) c u
 simpa using this
theorem boxes4(w:World)(a b c d:List Value)(s t u v:TypeId):Blk ((((w.alloc (.cells a.toArray s)).alloc (.cells b.toArray t)).alloc (.cells c.toArray u)).alloc (.cells d.toArray v)) w.heap.size a s∧Blk ((((w.alloc (.cells a.toArray s)).alloc (.cells b.toArray t)).alloc (.cells c.toArray u)).alloc (.cells d.toArray v)) (w.heap.size+1) b t∧
  Blk ((((w.alloc (.cells a.toArray s)).alloc (.cells b.toArray t)).alloc (.cells c.toArray u)).alloc (.cells d.toArray v)) (w.heap.size+1+1) c u∧Blk ((((w.alloc (.cells a.toArray s)).alloc (.cells b.toArray t)).alloc (.cells c.toArray u)).alloc (.cells d.toArray v)) (w.heap.size+1+1+1) d v∧Below w.heap.size w ((((w.alloc (.cells a.toArray s)).alloc (.cells b.toArray t)).alloc (.cells c.toArray u)).alloc (.cells d.toArray v)):=by
 obtain⟨h1,h2,e,f⟩:=boxes3 w a b c s t u
 refine⟨h1.alloc _,h2.alloc _,e.alloc _,?_,f.alloc (by simp;omega) _⟩
 have:=Blk.made (((w.alloc (.cells a.toArray s)).alloc (.cells b.toArray t)).alloc (.cells c.toArray u)) d v
 simpa using this
def ints(k:IntKind)(zs:List Int):List Value:=zs.map (.int k)
theorem zah(k:IntKind)(zs:List Int):∀v∈ints k zs,v.oneCell'=true:=by
 intro u a
 obtain⟨z,_,rfl⟩:=List.mem_map.1 a
 rfl
theorem zbw(k:IntKind)(zs:List Int)(i:Nat)(z:Int):(ints k zs).set i (.int k z)=ints k (zs.set i z):=by
 unfold ints
 rw[q141]
theorem zas {k:IntKind} {zs:List Int} {i:Nat}(h:i<zs.length):(ints k zs)[i]? =some (.int k (zs.getD i 0)):=by
 simp[ints,List.getD,h]
theorem zaa(k:IntKind)(zs:List Int):(ints k zs).length=zs.length:=by simp[ints]
end
end
section
open Go.ChangeShapes Go.WideShapes Go.ChangeAt Go.WideMaps Go.WideElems Go.RowKit
theorem laid_in {P:Program} {w:World}:∀{laid:List (String×DataW Unit)} {c:List MemPlace} {n:String} {d:DataW Unit},DataW.LaidVars P w laid c→(n,d)∈laid→
  ∃g t b fuel p,P.globalNamed n=some g∧(P.globals[g]?).map (·.type)=some t∧w.var? P n=some b∧DataW.trod (fun _=>()) P w 0 (fun _=>true) false fuel t b.toList=some (d,p)
 |[],_,_,_,_,a=>by cases a
 |(n0,d0)::r,c,n,d,h,a=>by
  obtain⟨g,t,b,fuel,p,q,h1,h2,f,j,i,_⟩:=h
  rcases List.mem_cons.1 a with e|a
  ·cases e
   exact⟨g,t,b,fuel,p,h1,h2,f,j⟩
  exact laid_in i a
theorem zcw {P:Program} {W:World} {L:List (String×DataW Unit)} {n:String} {g len:Nat} {t e:TypeId} {k:IntKind} {zs:List Int} {d:DataW Unit}
  (s:(L.all fun x=>x.2.handleName?.isNone)=true) (h:laidMetH P L W) (Q:(n,d)∈L) (K:d=.agg (zs.map fun z=>.lit (.int k z)))
  (J:P.globalNamed n=some g) (ht:(P.globals[g]?).map (·.type)=some t) (u:P.underlying t=some (.array len e)) (N:P.underlying e=some (.int k)) (I:P.cellsOf e=1) (w:zs.length=len):W.rangeAt g 0 (ints k zs):=by
 rw[MakeChecks.laidMetH_plain _ _ _ s]at h
 obtain⟨S,D,_,_⟩:=h
 obtain⟨T,t0,F,U,Y,i,E,R,O⟩:=laid_in D Q
 obtain rfl:=Option.some.inj (J.symm.trans i)
 obtain rfl:=Option.some.inj (ht.symm.trans E)
 obtain⟨r,m,rfl,f,Z,V,B⟩:=DataW.trod_array u O
 rw[K]at f
 simp only[Prod.mk.injEq,DataW.agg.injEq]at f
 intro j v b
 have G:j<len:=by
  apply Classical.byContradiction
  intro X
  rw[List.getElem?_eq_none (by rw[zaa];omega)]at b
  cases b
 have h0:=B j G
 rw[I,q148]at h0
 obtain⟨c,p⟩:∃c,r[j]? =some c:=⟨r[j],List.getElem?_eq_getElem (by omega)⟩
 rw[p]at h0
 obtain⟨q,M,A,_⟩:=DataW.trod_int N h0
 have a:(zs.map fun z=>(DataW.lit (.int k z):DataW Unit))[j]? =some c.1:=by rw[f.1,List.getElem?_map,p];rfl
 rw[A,List.getElem?_map]at a
 have C:zs[j]? =some q:=by
  cases hr:zs[j]? with
  |none=>rw[hr]at a;cases a
  |some z=>rw[hr]at a;simpa using a
 have y:v=.int k q:=by
  unfold ints at b
  rw[List.getElem?_map,C]at b
  simpa using b.symm
 have H:F.toList[j]? =some (.int k q):=by
  have:=congrArg (fun l:List Value=>l[0]?) M
  simpa[List.getElem?_take,List.getElem?_drop]using this
 have:=World.var?_cell i R j
 rw[q117,this,y]
 simpa using H
def LawWalkG(G:World→Prop) {H:Type}(enc:TypeId×Value→H)(P:Program)(f:FuncId)(ts:List TypeId):Prop:=
 ∀(W:World) (base:Nat) (args:Array Value) (ds:List (DataW H)) (ps:List MemPlace),
  (∀(j:Nat) (t:TypeId) (v:Value),ts[j]? =some t→args[j]? =some v→Value.okWide P W .any base t v)→
  DataW.TrodAll enc P W 0 (fun _=>true) true ts args.toList ds ps→(∀x∈ps,x.block<W.heap.size)→W.noneFrozen ps→G W→
  Calls P f args W fun e w'=>e=.returned (.bool true)∧Below W.heap.size W w'
theorem law_lift_tied {G:World→Prop} {H:Type} {enc:TypeId×Value→H} {C:Checked} {os:Os} {f:FuncId} {a:Func} {s:ChangeSpec} {m:TypeId}(L:List (String×DataW Unit))
  (own:ownKnob C.prog.godebug=none) (laid:laidOutB C.prog=true) (D:os.Started)
  (T:C.prog.inits.idxOf? f=none) (B:C.prog.funcs[f]? =some a) (u:s.vars=[])
  (J:(a.params.toList.all fun t=>C.prog.readableRec t && decide (t<C.prog.types.size))=true)
  (M:a.resultTypes=#[m]) (y:C.prog.underlying m=some .bool)
  (U:∀b:List (DataW H),b.length=a.params.toList.length→(s.fn H b).results=[.lit (.bool true)]∧(s.fn H b).args=b∧(s.fn H b).vars=[])
  (K:∃(w:World) (tape:Tape) (i:Input),w.os=os∧(w.forCall tape i).Shaped C.prog∧i.vars=[]∧Input.okWide C.prog (w.forCall tape i) .any w.heap.size f i∧
   ((s.pre enc C.prog a [] false (w.forCall tape i).memory i.args∧laidMetH C.prog L (w.forCall tape i).memory)∧sizedMet enc C.prog a (OpenSpec.ofChange s) false (w.forCall tape i).memory i.args)∧({}:Assume).holds C.prog (lone (Frame.enter C.prog f i.args .normal) [] (w.forCall tape i)))
  (N:∀W,laidMetH C.prog L W→G W) (z:LawWalkG G enc C.prog f a.params.toList):
  ReturnsInHanded {} C os f .any (fun w args=>(s.pre enc C.prog a [] false w args∧laidMetH C.prog L w)∧sizedMet enc C.prog a (OpenSpec.ofChange s) false w args) (s.post enc C.prog a false true false false):=by
 refine returnsInHanded_of_change_and (C:=C) (X:=fun w _=>laidMetH C.prog L w) (fun _ _ _ P h=>h.of_heap P) own D T B K ?_
 intro W base args b gs a0 R d _ _ Q _
 have I:=d
 have c:=d.lt
 obtain⟨p,q,k,r,rfl,l,Z⟩:=d
 rw[u]at r
 obtain⟨rfl,rfl⟩:=trodVars_none r
 rw[q129]at c l
 have S:=trodAll_len k
 obtain⟨O,F,A⟩:=U b S
 refine(z W base args b p (fun j t v E V=>R j t v (by rw[←Array.getElem?_toList];exact E) V) k c l (N W Q)).mono ?_
 rintro e Y ⟨rfl,n⟩
 refine⟨_,rfl,b,[],p++[],[],p,[],I,?_,?_,?_,?_,?_⟩
 ·rw[q129,O,M]
  exact trodAll_mk1 (shut_bool y _)
 ·rw[q129,F]
  exact trodAll_stays laid J k (fun x g=>n.same (c x g)) (fun x g=>by simpa using c x g)
 ·rw[u,q129,A]
  rfl
 ·exact n.frame _
 intro h
 cases h
end
section
def Ext(w w':World):Prop:=Below w.heap.size w w'
theorem Ext.refl(w:World):Ext w w:=Below.refl _ w
theorem Ext.trans {a b c:World}(h:Ext a b)(g:Ext b c):Ext a c:=Below.trans h (Below.mono g h.size)
theorem Ext.drew(w:World):Ext w w.drew:=(Below.refl _ w).drew
theorem Ext.alloc(w:World)(o:Obj):Ext w (w.alloc o):=(Below.refl _ w).alloc (q101 _) o
section
variable {P:Program} {ops:Array Oper} {Q:Exit→Act→World→Prop} {md:Region.Mode} {t:Nat}
def doneB(t:Nat)(listed:Array Bool):Bool:=(List.range t).all fun k=>listed.getD k true
def wpAnyB(P:Program)(md:Region.Mode)(ops:Array Oper)(Q:Exit→Act→World→Prop)(t:Nat):Nat→Array Bool→Act→World→Prop
 |0,listed,a,w=>∀w',Ext w w'→wpAny P md ops Q 0 listed a w'
 |fuel+1,listed,a,w=>
  (doneB t listed=true→∀w',Ext w w'→wpAny P md ops Q (fuel+1) listed a w')∧
  (doneB t listed=false→∀w',Ext w w'→Region.ready md ops listed≠[]∧
   ∀i∈Region.ready md ops listed,wpOp P ops Q i (fun a' w''=>Ext w' w''∧wpAnyB P md ops Q t fuel (listed.setIfInBounds i true) a' w'') a w')
theorem wpAnyB_up:∀{fuel:Nat} {e:Array Bool} {a:Act} {w d:World},Ext w d→wpAnyB P md ops Q t fuel e a w→wpAnyB P md ops Q t fuel e a d
 |0,_,_,_,_,hw,h=>fun b h2=>h b (hw.trans h2)
 |_+1,_,_,_,_,hw,h=>⟨fun c b h2=>h.1 c b (hw.trans h2),fun c b h2=>h.2 c b (hw.trans h2)⟩
theorem wpAny_of_B:∀(fuel:Nat) {b:Array Bool} {a:Act} {w:World},wpAnyB P md ops Q t fuel b a w→wpAny P md ops Q fuel b a w
 |0,_,_,w,h=>h w (Ext.refl w)
 |fuel+1,b,_,w,h=>by
  cases hd:doneB t b with
  |true=>exact h.1 hd w (Ext.refl w)
  |false=>
   obtain⟨h1,h2⟩:=h.2 hd w (Ext.refl w)
   exact⟨fun h0=>absurd h0 h1,fun i c=>wpOp_mono (fun a' e d=>wpAny_of_B fuel d.2) (h2 i c)⟩
def YieldsB(P:Program)(ops:Array Oper)(C:World→Prop)(o:Oper)(v:Value)(a:Act):Prop:=
 (Region.wanted o (yielded ops a.tmps)=true∧∀w,C w→o.quietAt P a (Ext w) w v)∨(Region.wanted o (yielded ops a.tmps)=false∧v=undef)
variable {C:World→Prop}
theorem YieldsB.of_same {o:Oper} {v:Value} {a a':Act}(c:YieldsB P ops C o v a)(d:execOp a'.eval o=execOp a.eval o)
  (b:Region.wanted o (yielded ops a'.tmps)=Region.wanted o (yielded ops a.tmps)):YieldsB P ops C o v a':=by
 rcases c with⟨h1,h2⟩|⟨h1,h2⟩
 ·exact Or.inl ⟨b.trans h1,fun w e=>by have:=h2 w e;unfold Oper.quietAt at*;rwa [d]⟩
 exact Or.inr ⟨b.trans h1,h2⟩
theorem YieldsB.wpOp {i:Nat} {o:Oper} {v:Value} {a:Act}(m:ops[i]? =some o)(q:YieldsB P ops C o v a) {K:Act→World→Prop} {w:World}(k:C w)
  (h:∀d,Ext w d→K (a.put o.dst v) d):wpOp P ops Q i K a w:=by
 unfold Go.wpOp
 simp only[m]
 rcases q with⟨j,l⟩|⟨j,rfl⟩
 ·rw[if_pos j]
  left
  have b:=l w k
  unfold Oper.quietAt at b
  unfold Oper.wp
  generalize (execOp a.eval o).run P w=r at*
  cases r with
  |halt x d=>exact b.elim
  |ok n d=>
   cases n<;>simp only[Oper.quietUpon]at b<;>simp only[Oper.upon]
   case value u=>
    obtain⟨c,g⟩:=b
    rw[c,g]
    exact h _ (Ext.refl _)
   case skip=>
    obtain⟨c,g⟩:=b
    rw[c,←g]
    exact h _ (Ext.refl _)
   case enter f args=>
    obtain⟨c,p⟩:=b
    rw[c]
    exact p.mono fun e w'' ⟨he,hw''⟩=>by subst he;exact h _ hw''
 rw[if_neg (by simp[j])]
 exact h _ (Ext.refl _)
theorem wpOp_keep {j:Nat} {i:Oper} {Y:Act→Prop} {K:Act→World→Prop} {a:Act} {w:World}(p:ops[j]? =some i)(g:∀u,Y (a.put i.dst u))
  (m:∀d,Y ({ a with defers:=d::a.defers }.put i.dst undef)) (h:wpOp P ops Q j K a w):wpOp P ops Q j (fun a' k=>Y a'∧K a' k) a w:=by
 unfold wpOp at*
 simp only[p]at*
 split
 ·rename_i l
  simp only[l,if_true]at h
  rcases h with h|h
  ·left
   unfold Oper.wp at*
   generalize (execOp a.eval i).run P w=r at*
   cases r with
   |halt x k=>cases x<;>simp only[Oper.upon]at h⊢<;>exact h
   |ok n k=>
    cases n<;>simp only[Oper.upon]at h⊢
    case value u=>exact⟨g u,h⟩
    case skip=>exact⟨g _,h⟩
    case defer d=>exact⟨m d,h⟩
    case enter f args=>
     refine Calls.mono h fun e q b=>?_
     cases e with
     |returned u=>exact⟨g u,b⟩
     |panicked c=>exact b
     |outgrown=>exact b
    case row r args2=>exact Rows.mono h fun u q b=>⟨g u,b⟩
  exact Or.inr h
 rename_i l
 simp only[l]at h
 exact⟨g _,h⟩
theorem wpAnyB_first {i:Nat} {f:Oper} {v:Value}(A:ops[i]? =some f)(Z:i<t)(G:∀(j:Nat) (o:Oper) n b,ops[j]? =some o→o.op≠ .select n b)
  (hQ:∀d v c a w,Q (.panic c) (Act.put a d v) w→Q (.panic c) a w) (r:Array Bool) (af:r.size=ops.size) (a4:∀j∈Region.ready md ops r,j=i) (ad:∀k,t≤k→r.getD k false=false):
  ∀(fuel:Nat) (l:Array Bool) (a:Act) (w:World),
   (∀j g,ops[j]? =some g→j≠i→l.getD j true=false→(∀e∈g.after,Region.binds md e=true→e.on≠i)→f.apart ops g=true)→
   i∈Region.ready md ops l→(∀k,l.getD k false=true→r.getD k false=true)→YieldsB P ops C f v a→(∀p,Ext w p→C p)→
   wpAnyB P md ops Q t fuel (l.setIfInBounds i true) (a.put f.dst v) w→wpAnyB P md ops Q t (fuel+1) l a w:=by
 intro fuel
 induction fuel with
 |zero=>
  intro l a w N y R s F H
  have B:=(mem_ready.1 y).1
  have M:doneB t l=false:=by
   unfold doneB
   rw[List.all_eq_false]
   exact⟨i,List.mem_range.2 Z,by rw[B];simp⟩
  refine⟨fun h=>(by rw[M]at h;cases h),fun _ p q=>⟨List.ne_nil_of_mem y,fun j I=>?_⟩⟩
  by_cases m:j=i
  ·subst m
   exact s.wpOp A (F p q) (fun U D=>⟨D,wpAnyB_up (q.trans D) H⟩)
  have h0:=(H p q).1
  have:=ready_mono I m
  rw[h0]at this
  cases this
 |succ fuel ih=>
  intro l a w N y R s F H
  have B:=(mem_ready.1 y).1
  have M:doneB t l=false:=by
   unfold doneB
   rw[List.all_eq_false]
   exact⟨i,List.mem_range.2 Z,by rw[B];simp⟩
  refine⟨fun h=>(by rw[M]at h;cases h),fun _ p q=>⟨List.ne_nil_of_mem y,fun j I=>?_⟩⟩
  by_cases m:j=i
  ·subst m
   exact s.wpOp A (F p q) (fun U D=>⟨D,wpAnyB_up (q.trans D) H⟩)
  obtain⟨T,g,x,W⟩:=mem_ready.1 I
  have ae:j<ops.size:=(Array.getElem?_eq_some_iff.1 x).1
  have O:r.getD j false=true:=by
   cases hc:r.getD j false with
   |true=>rfl
   |false=>
    refine absurd (a4 j (mem_ready.2 ⟨?_,g,x,fun e V L=>R _ (W e V L)⟩)) m
    have ac:j<r.size:=by omega
    simpa[Array.getD,ac]using hc
  have aa:j<t:=by
   rcases q114 j t with h|h
   ·exact h
   rw[ad j h]at O;cases O
  cases hd:doneB t (l.setIfInBounds i true)with
  |true=>
   unfold doneB at hd
   have:=(List.all_eq_true.1 hd) j (List.mem_range.2 aa)
   rw[getD_set_ne true (Ne.symm m),T]at this
   cases this
  |false=>
   have h1:=((H.2 hd) p q).2 j (ready_mono I m)
   have ab:∀e∈g.after,Region.binds md e=true→e.on≠i:=fun e V L a5=>by
    have h2:=W e V L
    rw[a5]at h2
    rcases q114 i l.size with S|S
    ·simp[S]at B h2;rw[B]at h2;cases h2
    simp[Array.getElem?_eq_none S]at h2
   have X:=N j g x m T ab
   obtain⟨a1,a2,E⟩:=Oper.apart_spec X
   have a8:YieldsIf P ops (fun _=>False) f v a:=s.imp (fun h=>⟨h.1,fun _ h=>h.elim⟩) id
   have h2:=wpOp_putIf x X (fun n b=>G i f n b A) (fun n b=>G j g n b x) (fun c a w h=>hQ _ _ c a w h) a8 h1
   have keep:∀u,YieldsB P ops C f v (a.put g.dst u):=fun u=>s.of_same (execOp_put f (fun n b=>G i f n b A) a g.dst u E) (wanted_put f a g.dst u E)
   have a0:∀d,YieldsB P ops C f v ({ a with defers:=d::a.defers }.put g.dst undef):=fun d=>
    (s.of_same (a':={ a with defers:=d::a.defers }) rfl rfl).of_same (execOp_put f (fun n b=>G i f n b A) _ g.dst undef E) (wanted_put f _ g.dst undef E)
   have h3:=wpOp_keep (Y:=YieldsB P ops C f v) x keep a0 h2
   refine wpOp_mono (fun a' U K=>⟨K.2.2.1,ih (l.setIfInBounds j true) a' U ?_ (ready_mono y (Ne.symm m)) ?_ K.1 (fun w3 h5=>F w3 ((q.trans K.2.2.1).trans h5)) ?_⟩) h3
   ·intro k ok J a9 a6 a7
    refine N k ok J a9 ?_ a7
    by_cases z:j=k
    ·subst z;exact T
    rwa [getD_set_ne true z]at a6
   ·intro k J
    by_cases z:j=k
    ·subst z;exact O
    rw[getD_set_ne false z]at J
    exact R k J
   rw[Array.setIfInBounds_comm _ _ m]
   exact K.2.2.2
def closeB(md:Region.Mode)(ops:Array Oper)(i:Nat)(listed:Array Bool):Array Bool:=
 (List.range ops.size).foldl (fun c j=>if j==i||c.getD j true then c else if ((ops[j]?).map (·.after.all fun e=>!Region.binds md e||c.getD e.on false)).getD false then c.setIfInBounds j true else c) listed
def detB(md:Region.Mode)(ops:Array Oper)(t:Nat):Nat→Nat→Array Bool→Bool
 |0,_,_=>true
 |d+1,k,listed=>
  let cl:=closeB md ops k listed
  (Region.ready md ops listed).contains k && Region.free md ops listed k && Nat.blt k t && (cl.size==ops.size) && (Region.ready md ops cl).all (·==k) && (List.range cl.size).all (fun j=>Nat.blt j t||!cl.getD j false) && (List.range listed.size).all (fun j=>!listed.getD j false||cl.getD j false) &&
   detB md ops t d (k+1) (listed.setIfInBounds k true)
def wpDet(P:Program)(ops:Array Oper)(C:World→Prop)(Q:Act→Prop):List Oper→Act→Prop
 |[],a=>Q a
 |o::rest,a=>(Region.wanted o (yielded ops a.tmps)=true→∃v,(∀w,C w→o.quietAt P a (Ext w) w v)∧wpDet P ops C Q rest (a.put o.dst v))∧(Region.wanted o (yielded ops a.tmps)=false→wpDet P ops C Q rest (a.put o.dst undef))
def listN:Nat→Nat→Array Bool→Array Bool
 |0,_,l=>l
 |d+1,k,l=>listN d (k+1) (l.setIfInBounds k true)
theorem wpAnyB_lex(p:Region.noSelect ops=true)(n:∀d v c a w,Q (.panic c) (Act.put a d v) w→Q (.panic c) a w)(m:Nat):∀(l:List Oper) (k:Nat) (b:Array Bool) (a:Act) (w:World),(∀j,j<l.length→l[j]? =ops[k+j]?)→
  detB md ops t l.length k b=true→(∀i,Ext w i→C i)→wpDet P ops C (fun a'=>wpAnyB P md ops Q t m (listN l.length k b) a' w) l a→wpAnyB P md ops Q t (l.length+m) b a w
 |[],_,_,_,_,_,_,_,h=>by simpa[wpDet,listN]using h
 |o::l,k,b,a,w,hl,hB,hC,h=>by
  have h0:ops[k]? =some o:=by simpa using(hl 0 (by simp)).symm
  simp only[q106,detB,Bool.and_eq_true]at hB
  obtain⟨⟨⟨⟨⟨⟨⟨D,r⟩,z⟩,s⟩,A⟩,B⟩,q⟩,x⟩:=hB
  have g:∃v,YieldsB P ops C o v a∧wpDet P ops C (fun a'=>wpAnyB P md ops Q t m (listN l.length (k+1) (b.setIfInBounds k true)) a' w) l (a.put o.dst v):=by
   cases hw:Region.wanted o (yielded ops a.tmps)with
   |true=>
    obtain⟨v,h1,h2⟩:=h.1 hw
    exact⟨v,Or.inl ⟨hw,h1⟩,h2⟩
   |false=>exact⟨undef,Or.inr ⟨hw,rfl⟩,h.2 hw⟩
  obtain⟨v,g,u⟩:=g
  rw[q106,Nat.add_right_comm]
  have y:(closeB md ops k b).size=ops.size:=by simpa using s
  refine wpAnyB_first h0 (by simpa using z) (Region.noSelect_spec p) n (closeB md ops k b) y (fun j f=>by simpa using(List.all_eq_true.1 A) j f) (fun j f=>?_) (l.length+m) b a w (Region.free_spec h0 r) (by simpa using D) (fun j f=>?_) g hC
   (wpAnyB_lex p n m l (k+1) _ _ w (fun j f=>by have:=hl (j+1) (by simp;omega);simpa[Nat.add_assoc,Nat.add_comm 1 j]using this) x hC u)
  ·rcases q114 j (closeB md ops k b).size with e|e
   ·have:=(List.all_eq_true.1 B) j (List.mem_range.2 e)
    simp at this
    rcases this with h2|h2
    ·omega
    simpa[Array.getD,e]using h2
   simp[Array.getD,Nat.not_lt.2 e]
  rcases q114 j b.size with e|e
  ·have:=(List.all_eq_true.1 q) j (List.mem_range.2 e)
   simp only[Bool.or_eq_true,Bool.not_eq_true']at this
   rcases this with h2|h2
   ·rw[f]at h2;cases h2
   exact h2
  simp[Array.getD,Nat.not_lt.2 e]at f
theorem wp_region_from {id:Nat} {a:Act} {w:World}(d m t:Nat)(i:ops.size=d+m)(l:P.follows .mixedOrders=true)(k:Region.noSelect ops=true)
  (f:∀d v c a w,Q (.panic c) (Act.put a d v) w→Q (.panic c) a w) (n:detB .any ops t d 0 (Array.replicate ops.size false)=true)
  (h:wpDet P ops (Ext w) (fun a'=>wpAnyB P .any ops Q t m (listN d 0 (Array.replicate ops.size false)) a' w.drew) (ops.toList.take d) a):(Code.region id ops true).wp P Q a w:=by
 have b:(ops.toList.take d).length=d:=by simp;omega
 refine wp_region_any l (wpAny_of_B (t:=t) _ ?_)
 have:=wpAnyB_lex (C:=Ext w) (md:=.any) (w:=w.drew) k f m (ops.toList.take d) 0 (Array.replicate ops.size false) a (fun j e=>by
  rw[b]at e
  rw[List.getElem?_take_of_lt e,q117,Array.getElem?_toList]) (by rw[b];exact n) (fun p g=>(Ext.drew w).trans g) (by rw[b];exact h)
 rw[b]at this
 rw[i]at this⊢
 exact this
end
end
section
section
variable {P:Program} {ops:Array Oper} {Q:Exit→Act→World→Prop} {md:Region.Mode} {t:Nat} {C:World→Prop} {D:Act→Prop}
theorem det_nil {a:Act}(h:D a):wpDet P ops C D [] a:=h
theorem zde {o:Oper} {rest:List Oper} {a:Act}(v:Value)(c:Region.wanted o (yielded ops a.tmps)=true)(h:∀w,C w→(execOp a.eval o).run P w=.ok (.value v) w)
  (next:wpDet P ops C D rest (a.put o.dst v)):wpDet P ops C D (o::rest) a:=
 ⟨fun _=>⟨v,fun w d=>by unfold Oper.quietAt;rw[h w d];exact⟨rfl,rfl⟩,next⟩,fun b=>by rw[c]at b;cases b⟩
theorem zbj {o:Oper} {rest:List Oper} {a:Act}(x:Operand)(v:Value)(d:Region.wanted o (yielded ops a.tmps)=true)(c:o.op=.move x)(b:a.eval x=v)
  (next:wpDet P ops C D rest (a.put o.dst v)):wpDet P ops C D (o::rest) a:=
 zde v d (fun w _=>by unfold execOp;simp only[c,b,Sem.run_pure]) next
theorem zcf {o:Oper} {rest:List Oper} {a:Act}(x:Operand)(v:Value)(d:Region.wanted o (yielded ops a.tmps)=true)(c:o.op=.assign x)(b:a.eval x=v)
  (next:wpDet P ops C D rest (a.put o.dst v)):wpDet P ops C D (o::rest) a:=
 zde v d (fun w _=>by unfold execOp;simp only[c,b,Sem.run_pure]) next
theorem det_load {o:Oper} {rest:List Oper} {a:Act}(ty:TypeId)(x:Operand)(c:Nat)(b:List Value)(d:TypeDesc)(e:Region.wanted o (yielded ops a.tmps)=true)(f:o.op=.load ty x)
  (j:a.eval x=.pointer (some ⟨c,0,none⟩)) (g:∀w,C w→w.rangeAt c 0 b) (l:P.underlying ty=some d) (k:d.isRow=true) (i:(P.info? ty).map (·.size)=some b.length)
  (next:wpDet P ops C D rest (a.put o.dst (.agg b.toArray))):wpDet P ops C D (o::rest) a:=by
 rcases yieldsIf_load_mid (S:=C) e ty x f c 0 j b d g l k i with⟨_,h⟩|⟨h,_⟩
 ·exact zde _ e h next
 rw[e]at h;cases h
theorem det_call {o:Oper} {rest:List Oper} {a:Act}(f:FuncId)(b:Array Operand)(k:Array TypeId)(args:List Value)(v:Value)(j:Region.wanted o (yielded ops a.tmps)=true)
  (g:o.op=.call { callee:=.value (.func f),args:=b,argTypes:=k }) (m:∀args w,(callFunc f args).run P w=.ok (.enter f args) w) (n:b.toList.map a.eval=args)
  (l:∀w,C w→Calls P f args.toArray w fun e d=>e=.returned v∧Below w.heap.size w d) (next:wpDet P ops C D rest (a.put o.dst v)):wpDet P ops C D (o::rest) a:=
 ⟨fun _=>⟨v,fun w i=>by
  have h:b.map a.eval=args.toArray:=by
   apply Array.ext'
   simpa using n
  unfold Oper.quietAt execOp
  simp only[g,resolve,h,Sem.run_bind]
  simp only[Act.eval,Deferred.ofValue,Sem.run_pure,Result.andThen_ok,invoke,Array.append_empty,Array.empty_append,m]
  exact⟨rfl,l w i⟩,next⟩,fun c=>by rw[j]at c;cases c⟩
theorem det_cell {o:Oper} {rest:List Oper} {a:Act}(ty:TypeId)(x:Operand)(c k:Nat)(v:Value)(f:Region.wanted o (yielded ops a.tmps)=true)(b:o.op=.load ty x)
  (g:a.eval x=.pointer (some ⟨c,k,none⟩)) (e:∀w,C w→w.cell? ⟨c,k,none⟩=some v) (i:∀w,(isAgg ty).run P w=.ok false w)
  (next:wpDet P ops C D rest (a.put o.dst v)):wpDet P ops C D (o::rest) a:=
 zde v f (fun w d=>by
  have h:=e w d
  unfold execOp
  simp[b,g,Instr.loadAt,Instr.sureAddr,loadVar,i,h]) next
theorem zeu {o:Oper} {rest:List Oper} {a:Act}(ty e:TypeId)(x y:Operand)(k:IntKind)(m n r:Int)(c:Region.wanted o (yielded ops a.tmps)=true)(b:o.op=.binOp .add ty x y e)(f:a.eval x=.int k m)(g:a.eval y=.int k n)(d:k.wrap (m+n)=r)
  (next:wpDet P ops C D rest (a.put o.dst (.int k r))):wpDet P ops C D (o::rest) a:=
 zde _ c (fun w _=>by unfold execOp;simp[b,f,g,eqGuard,binOp,Op.intArith,d]) next
theorem det_and {o:Oper} {rest:List Oper} {a:Act}(ty e:TypeId)(x y:Operand)(k:IntKind)(m n r:Int)(c:Region.wanted o (yielded ops a.tmps)=true)(b:o.op=.binOp .and ty x y e)(f:a.eval x=.int k m)(g:a.eval y=.int k n)(d:bits .and k m n=r)
  (next:wpDet P ops C D rest (a.put o.dst (.int k r))):wpDet P ops C D (o::rest) a:=
 zde _ c (fun w _=>by rw[←d];unfold execOp bits;simp[b,f,g,eqGuard,binOp,Op.intBits]) next
theorem zei {o:Oper} {rest:List Oper} {a:Act}(ty e:TypeId)(x y:Operand)(k:IntKind)(m n r:Int)(c:Region.wanted o (yielded ops a.tmps)=true)(b:o.op=.binOp .xor ty x y e)(f:a.eval x=.int k m)(g:a.eval y=.int k n)(d:bits .xor k m n=r)
  (next:wpDet P ops C D rest (a.put o.dst (.int k r))):wpDet P ops C D (o::rest) a:=
 zde _ c (fun w _=>by rw[←d];unfold execOp bits;simp[b,f,g,eqGuard,binOp,Op.intBits]) next
theorem det_index {o:Oper} {rest:List Oper} {a:Act}(ty e:TypeId)(x y:Operand)(c n:Nat)(j:Nat)(f:Region.wanted o (yielded ops a.tmps)=true)(b:o.op=.indexAddr ty x y)(h:a.eval x=.pointer (some ⟨c,0,none⟩))(i:a.eval y=.int .i64 (j:Int))
  (k:P.underlying ty=some (.array n e)) (d:j<n) (g:∀w,(sizeOf e).run P w=.ok 1 w)
  (next:wpDet P ops C D rest (a.put o.dst (.pointer (some ⟨c,j,none⟩)))):wpDet P ops C D (o::rest) a:=
 zde _ f (fun w _=>by
  have h1:(0:Int)≤(j:Int)∧(j:Int)<(n:Int):=by omega
  unfold execOp
  simp[b,h,i,Instr.indexAt,asIntOf,run_underlying k,Instr.sureAddr,h1,g,Addr.add_mid,d]) next
theorem run_eqItems_bytes {e:TypeId} {i:TypeInfo}(c:P.underlying e=some (.int .u8))(r:P.info? e=some i)(d:Nat)(a b:List UInt8)(w:World):∀is:List Nat,(∀j∈is,j<a.length∧j<b.length)→
  (Op.eqItems (d+1) e 1 (a.map bval).toArray (b.map bval).toArray is).run P w=.ok (is.all fun j=>decide (a.getD j 0=b.getD j 0)) w
 |[],_=>by simp[Op.eqItems]
 |j::is,h=>by
  obtain⟨p,n⟩:=h j (List.mem_cons_self ..)
  have t:=run_eqItems_bytes c r d a b w is (fun k s=>h k (q171 _ s))
  have g:∀zs:List UInt8,j<zs.length→(part e (zs.map bval).toArray (j*1)).run P w=.ok (bval (zs.getD j 0)) w:=by
   intro zs q
   simp[part,isAgg,run_underlying c,q,List.getD]
  simp only[Op.eqItems,Sem.run_bind,g a p,g b n,Result.andThen_ok,Op.equalIn,run_underlying c]
  have l:∀z:UInt8,bval z=.int .u8 (z.toNat:Int):=fun _=>rfl
  simp only[l]
  by_cases f:a.getD j 0=b.getD j 0
  ·simp only[f,if_true,beq_self_eq_true,Sem.run_pure,Result.andThen_ok,Bool.not_true,Bool.false_eq_true,if_false,t,List.all_cons,decide_true,Bool.true_and]
  have m:(((a.getD j 0).toNat:Int)==((b.getD j 0).toNat:Int))=false:=by
   rw[beq_eq_false_iff_ne]
   intro u
   exact f (UInt8.toNat_inj.1 (by omega))
  simp only[if_true,m,Sem.run_pure,Result.andThen_ok,Bool.not_false,List.all_cons,f,decide_false,Bool.false_and]
theorem run_equal_bytes {ty e:TypeId} {n:Nat} {i:TypeInfo}(p:P.underlying ty=some (.array n e))(l:P.underlying e=some (.int .u8))(c:P.info? e=some i)(m:P.cellsOf e=1)(a b:List UInt8)(q:a.length=n)(r:b.length=n)(w:World):
  (Op.equal ty (.agg (a.map bval).toArray) (.agg (b.map bval).toArray)).run P w=.ok (decide (a=b)) w:=by
 have h1:=run_equalIn_array (P:=P) w 9999 (a.map bval).toArray (b.map bval).toArray p c
 rw[m,run_eqItems_bytes l c 9998 a b w (List.range n) (fun j f=>by have:=List.mem_range.1 f;omega)]at h1
 refine Eq.trans h1 ?_
 congr 1
 rw[Bool.eq_iff_iff,List.all_eq_true,decide_eq_true_iff]
 constructor
 ·intro h
  apply q168 (by omega)
  intro k g d
  have:=h k (List.mem_range.2 (by omega))
  simpa[List.getD,g,d]using this
 rintro rfl j _
 simp
theorem det_eql {o:Oper} {rest:List Oper} {a:Act}(b:BinOp)(ty p e:TypeId)(x y:Operand)(n:Nat)(i:TypeInfo)(d f:List UInt8)(r:Bool)(l:Region.wanted o (yielded ops a.tmps)=true)(g:o.op=.binOp b ty x y p)
  (c:b=.eql∧decide (d=f)=r∨b=.neq∧decide (d=f)=!r)
  (v:P.underlying ty=some (.array n e)) (s:P.underlying e=some (.int .u8)) (q:P.info? e=some i) (t:P.cellsOf e=1) (k:P.eqGuardType P.depth ty=false)
  (j:a.eval x=.agg (d.map bval).toArray) (h:a.eval y=.agg (f.map bval).toArray) (u:d.length=n) (m:f.length=n)
  (next:wpDet P ops C D rest (a.put o.dst (.bool r))):wpDet P ops C D (o::rest) a:=
 zde _ l (fun w _=>by
  have h1:=run_equal_bytes v s q t d f u m w
  rcases c with⟨rfl,c⟩|⟨rfl,c⟩
  ·rw[c]at h1
   unfold execOp
   simp[g,j,h,eqGuard,k,binOp,h1]
  rw[c]at h1
  unfold execOp
  simp[g,j,h,eqGuard,k,binOp,h1]) next
theorem end_store {k:Nat} {o:Oper} {c:Array Bool} {a:Act} {w:World}(m:ops[k]? =some o)(d:Region.ready md ops c=[k])(l:Region.ready md ops (c.setIfInBounds k true)=[])(p:doneB t c=true)(n:o.guard=none)
  (h:∀b,Ext w b→o.wp P a b (fun a' f=>Q .normal a' f) Q):wpAnyB P md ops Q t 1 c a w.drew:=by
 refine⟨fun _ b j=>⟨fun h0=>(by rw[d]at h0;cases h0),fun i e=>?_⟩,fun h0=>(by rw[p]at h0;cases h0)⟩
 rw[d]at e
 obtain rfl:i=k:=by simpa using e
 unfold wpOp
 simp only[m,Region.wanted,n,if_true]
 exact Or.inl (Oper.wp_mono (fun a' f g=>⟨l,g⟩) (h b ((Ext.drew w).trans j)))
theorem result_row {w:World} {b:Func} {p:Tmp} {ty:TypeId}(h:b.results=#[.cell p ty])(tmps:Array Value)(c:Nat)(e:TypeId)(a:List Value)(d:TypeDesc)
  (g:tmps.getD p undef=.pointer (some ⟨c,0,none⟩)) (f:Blk w c a e) (j:P.underlying ty=some d) (k:d.isRow=true) (i:(P.info? ty).map (·.size)=some a.length):
  (results b tmps).run P w=.ok (.agg a.toArray) w:=
 results_cell_row h tmps w c e a.toArray (0,0) d g f j (by cases d<;>simp_all [TypeDesc.isRow]) (by simpa using i)
theorem zak {w a:World} {c:Nat} {b:List Value} {d:TypeId}(h:Blk w c b d)(e:Ext w a):Blk a c b d:=h.same (e.block _ h.lt)
theorem ext_range {w a:World} {c:Nat} {b:List Value} {d:TypeId}(h:Blk w c b d)(e:Ext w a):a.rangeAt c 0 b:=(zak h e).range
theorem zab {a b d:World} {c:Nat}(h:Ext a b)(e:b.grownBy d (some c))(g:a.heap.size≤c):Ext a d:=Below.grown h e h.size (fun k f=>by cases f;exact g)
end
end
section
theorem zai {zs:List Int} {i:Nat} {z:Int}(h:i<zs.length):(zs.set i z).getD i 0=z:=by simp[List.getD,h]
theorem zae {zs:List Int} {i j:Nat} {z:Int}(h:i≠j):(zs.set i z).getD j 0=zs.getD j 0:=by simp[List.getD,List.getElem?_set_ne h]
theorem zej {zs:List Int} {n:Nat} {P:Int→Prop}(c:zs.length=n)(h:∀i,i<n→P (zs.getD i 0)):∀z∈zs,P z:=by
 intro z b
 obtain⟨i,a,rfl⟩:=List.getElem_of_mem b
 have:=h i (by omega)
 rwa [show zs.getD i 0=zs[i]from by simp[List.getD,a]]at this
theorem zce {zs:List Int} {P:Int→Prop}(h:∀z∈zs,P z) {i:Nat}(a:i<zs.length):P (zs.getD i 0):=by
 rw[show zs.getD i 0=zs[i]from by simp[List.getD,a]]
 exact h _ (List.getElem_mem _)
def leN:List UInt8→Nat
 |[]=>0
 |b::r=>b.toNat+256*leN r
theorem bytes32(l:List UInt8)(h:l.length=32):l=[l.getD 0 0,l.getD 1 0,l.getD 2 0,l.getD 3 0,l.getD 4 0,l.getD 5 0,l.getD 6 0,l.getD 7 0,l.getD 8 0,l.getD 9 0,l.getD 10 0,l.getD 11 0,l.getD 12 0,l.getD 13 0,l.getD 14 0,l.getD 15 0,
  l.getD 16 0,l.getD 17 0,l.getD 18 0,l.getD 19 0,l.getD 20 0,l.getD 21 0,l.getD 22 0,l.getD 23 0,l.getD 24 0,l.getD 25 0,l.getD 26 0,l.getD 27 0,l.getD 28 0,l.getD 29 0,l.getD 30 0,l.getD 31 0]:=by
 match l,h with
 |[_,_,_,_,_,_,_,_,_,_,_,_,_,_,_,_,_,_,_,_,_,_,_,_,_,_,_,_,_,_,_,_],_=>rfl
theorem zbg {l:List UInt8} {i:Nat}(h:i<l.length):(l.map bval)[i]? =some (.int .u8 ((l.getD i 0).toNat:Int)):=by
 simp[bval,List.getD,h]
def bytesN:Nat→Nat→List UInt8
 |0,_=>[]
 |k+1,n=>UInt8.ofNat (n%256)::bytesN k (n / 256)
theorem bytesN_leN:∀(l:List UInt8),bytesN l.length (leN l)=l
 |[]=>rfl
 |b::r=>by
  have d:=b.toNat_lt
  have a:(b.toNat+256*leN r)%256=b.toNat:=by omega
  have c:(b.toNat+256*leN r) / 256=leN r:=by omega
  simp only[leN,q106,bytesN,a,c,bytesN_leN r]
  congr 1
  simp
theorem zaq:∀(k n:Nat),(bytesN k n).length=k
 |0,_=>rfl
 |k+1,n=>by simp[bytesN,zaq k]
theorem zem:∀(k n:Nat),leN (bytesN k n)=n%256^k
 |0,n=>by simp[bytesN,leN,Nat.mod_one]
 |k+1,n=>by
  have:=zem k (n / 256)
  have a:(UInt8.ofNat (n%256)).toNat=n%256:=by
   rw[UInt8.toNat_ofNat']
   omega
  simp only[bytesN,leN,this,a,q132]
  rw[q134 (256^k) 256,Nat.mod_mul]
theorem bytesN_append:∀(m n x:Nat),bytesN (m+n) x=bytesN m x++bytesN n (x / 256^m)
 |0,n,x=>by simp[bytesN]
 |m+1,n,x=>by
  rw[Nat.add_right_comm]
  simp only[bytesN,List.cons_append]
  rw[bytesN_append m n (x / 256),q172,q132,q134 256]
theorem leN_lt:∀(l:List UInt8),leN l<256^l.length
 |[]=>by simp[leN]
 |b::r=>by
  have a:=b.toNat_lt
  have:=leN_lt r
  simp only[leN,q106,q132]
  omega
theorem andU1(n:Nat):bits .and .u8 (n:Int) 1=((n%2:Nat):Int):=by
 have h:(BitVec.ofInt 8 1).toNat=2^1 - 1:=by decide
 have key:(BitVec.ofInt 8 (n:Int) &&& BitVec.ofInt 8 1).toNat=((n:Int)%((2^8:Nat):Int)).toNat%2^1:=by
  rw[BitVec.toNat_and,BitVec.toNat_ofInt,h,q142]
 show IntKind.u8.wrap ((BitVec.ofInt 8 (n:Int) &&& BitVec.ofInt 8 1).toNat:Nat)=_
 rw[key,IntKind.wrap_u8]
 omega
theorem leN_bit:∀(l:List UInt8) (i:Nat),i<8*l.length→leN l / 2^i%2=(l.getD (i / 8) 0).toNat / 2^(i%8)%2
 |[],i,h=>by simp at h
 |b::r,i,h=>by
  rcases q114 i 8 with e|e
  ·have a:i / 8=0:=by omega
   have d:i%8=i:=by omega
   rw[a,d]
   simp only[leN,List.getD_cons_zero]
   generalize leN r=R
   generalize b.toNat=c
   rcases(by omega:i=0∨i=1∨i=2∨i=3∨i=4∨i=5∨i=6∨i=7)with rfl|rfl|rfl|rfl|rfl|rfl|rfl|rfl<;>simp only[Nat.reducePow]<;>omega
  obtain⟨j,rfl⟩:∃j,i=8+j:=⟨i - 8,by omega⟩
  have f:=b.toNat_lt
  have a:(8+j) / 8=j / 8+1:=by omega
  have d:(8+j)%8=j%8:=by omega
  rw[a,d,List.getD_cons_succ,←leN_bit r j (by rw[q106]at h;omega),Nat.pow_add,←q172]
  congr 2
  simp only[leN]
  omega
theorem w64 {a:Nat}(b:a<18446744073709551616):IntKind.u64.wrap (a:Int)=(a:Int):=by rw[IntKind.wrap_u64];omega
theorem or64(a b:Nat)(g:a<18446744073709551616)(f:b<18446744073709551616):bits .or .u64 (a:Int) (b:Int)=((a|||b:Nat):Int):=by
 have e:(BitVec.ofInt 64 (a:Int)).toNat=a:=by rw[BitVec.toNat_ofInt];omega
 have d:(BitVec.ofInt 64 (b:Int)).toNat=b:=by rw[BitVec.toNat_ofInt];omega
 show IntKind.u64.wrap ((BitVec.ofInt 64 (a:Int)|||BitVec.ofInt 64 (b:Int)).toNat:Nat)=_
 have c:=(BitVec.ofInt 64 (a:Int)|||BitVec.ofInt 64 (b:Int)).isLt
 rw[BitVec.toNat_or,e,d]at c⊢
 exact w64 c
theorem or_sum(k x y:Nat)(a:x<2^k):2^k*y|||x=2^k*y+x:=(Nat.two_pow_add_eq_or_of_lt a y).symm
theorem zax {w a:World} {c:Nat} {b:List Value} {t:TypeId}(h:Blk w c b t)(d:Below w.heap.size w a):a.rangeAt c 0 b:=(h.same (d.block _ h.lt)).range
theorem bl_blk {w a:World} {c:Nat} {b:List Value} {t:TypeId}(h:Blk w c b t)(d:Below w.heap.size w a):Blk a c b t:=h.same (d.block _ h.lt)
theorem leN_zeros:∀k,leN (List.replicate k 0)=0
 |0=>rfl
 |k+1=>by rw[List.replicate_succ,leN,leN_zeros k];rfl
def zer:List UInt8:=List.replicate 32 0
theorem zer_length:zer.length=32:=by simp[zer]
theorem leN_zer:leN zer=0:=leN_zeros 32
def zero32:List Value:=ints .u8 (List.replicate 32 0)
section
variable {P:Program}
theorem zau {w:World} {b:Func} {p u:Tmp} {ty:TypeId}(h:b.results=#[.cell p ty,.tmp u])(tmps:Array Value)(c:Nat)(g:TypeId)(a:List Value)(d:TypeDesc)
  (f:tmps.getD p undef=.pointer (some ⟨c,0,none⟩)) (e:Blk w c a g) (k:P.underlying ty=some d) (j:d.isRow=true) (i:(P.info? ty).map (·.size)=some a.length):
  (results b tmps).run P w=.ok (.tuple #[.agg a.toArray,tmps.getD u undef]) w:=by
 rw[results_cell_tmp h,f]
 simp only[asAddr,Sem.run_pure,Result.andThen_ok,run_loadVar_mid w c 0 ty a d e.range k j i]
end
end
theorem Tryz.arr23:(Tryz.prog.info? 23).map (·.size)=some 32:=by kernel_rfl
theorem zdq:Tryz.prog.info? 5=some (Tryz.prog.info? 5).get! :=by kernel_rfl
theorem zcd:Tryz.prog.cellsOf 5=1:=by kernel_rfl
theorem zdn:Tryz.prog.eqGuardType Tryz.prog.depth 23=false:=by kernel_rfl
theorem zaf {l:List UInt8}(h:l.length=32):(Tryz.prog.info? 23).map (·.size)=some (l.map bval).length:=by rw[q100,h];exact Tryz.arr23
def dV:List Int→Int
 |[]=>0
 |z::r=>z+65536*dV r
theorem dV_set:∀(zs:List Int) (i:Nat) (z:Int),i<zs.length→dV (zs.set i z)=dV zs+(z - zs.getD i 0)*65536^i
 |[],i,z,h=>by simp at h
 |a::r,0,z,h=>by simp[dV];omega
 |a::r,i+1,z,h=>by
  have:=dV_set r i z (by simpa using h)
  simp only[q152,dV,this,List.getD_cons_succ,q124]
  grind
def bigM:Int:=65536^16
theorem bigM_15:(65536:Int)^15*65536=bigM:=rfl
structure CY(zs zs':List Int)(B:Int)(k:Nat):Prop where
 len:zs'.length=16
 val:dV zs'=dV zs
 low:∀i,i<k→0≤zs'.getD i 0∧zs'.getD i 0≤65535
 here: -(B+B / 32768+2)≤zs'.getD k 0∧zs'.getD k 0≤B+B / 32768+2
 high:∀i,k<i→i<16→ -B≤zs'.getD i 0∧zs'.getD i 0≤B
structure CZ(zs zs':List Int)(B:Int):Prop where
 len:zs'.length=16
 ex:∃c,-(B / 32768+2)≤c∧c≤B / 32768+2∧dV zs'=dV zs - (bigM - 38)*c∧0≤zs'.getD 0 0 - 38*c∧zs'.getD 0 0 - 38*c≤65535
 low:∀i,0<i→i<16→0≤zs'.getD i 0∧zs'.getD i 0≤65535
theorem CY.start {zs:List Int} {B:Int}(c:zs.length=16)(b:∀z∈zs,-B≤z∧z≤B)(h0:0≤B):CY zs zs B 0:=by
 have g:∀i,i<16→ -B≤zs.getD i 0∧zs.getD i 0≤B:=fun i a=>by
  have:zs.getD i 0=zs[i]'(by omega):=by simp[List.getD,show i<zs.length from by omega]
  rw[this]
  exact b _ (List.getElem_mem _)
 have:=g 0 (by omega)
 exact⟨c,rfl,fun i a=>by omega,by omega,fun i _ a=>g i a⟩
theorem CY.step {zs a:List Int} {B:Int} {k:Nat}(h:CY zs a B k)(g:k<15)(h0:0≤B):
  CY zs ((a.set k (a.getD k 0 - a.getD k 0 / 65536*65536)).set (k+1) (a.getD (k+1) 0+a.getD k 0 / 65536)) B (k+1):=by
 obtain⟨h1,h2,d,l,b⟩:=h
 have j:=b (k+1) (by omega) (by omega)
 refine⟨by simp[h1],?_,fun i f=>?_,?_,fun i f c=>?_⟩
 ·rw[dV_set _ _ _ (by simp;omega),dV_set _ _ _ (by omega),zae (by omega),h2,q124]
  generalize (65536:Int)^k=X
  grind
 ·by_cases e:i=k
  ·subst e
   rw[zae (by omega),zai (by omega)]
   omega
  rw[zae (by omega),zae (by omega)]
  exact d i (by omega)
 ·rw[zai (by simp;omega)]
  omega
 rw[zae (by omega),zae (by omega)]
 exact b i (by omega) c
theorem CY.last {zs a:List Int} {B:Int}(h:CY zs a B 15)(h0:0≤B):
  CZ zs ((a.set 15 (a.getD 15 0 - a.getD 15 0 / 65536*65536)).set 0 (a.getD 0 0+38*(a.getD 15 0 / 65536))) B:=by
 obtain⟨h1,h2,b,j,d⟩:=h
 have g:=b 0 (by omega)
 refine⟨by simp[h1],⟨a.getD 15 0 / 65536,by omega,by omega,?_,?_,?_⟩,fun i f c=>?_⟩
 ·rw[dV_set _ _ _ (by simp;omega),dV_set _ _ _ (by omega),zae (by omega),h2,←bigM_15]
  generalize (65536:Int)^15=X
  rw[Int.pow_zero]
  grind
 ·rw[zai (by simp;omega)]
  omega
 ·rw[zai (by simp;omega)]
  omega
 by_cases e:i=15
 ·subst e
  rw[zae (by omega),zai (by omega)]
  omega
 rw[zae (by omega),zae (by omega)]
 exact b i (by omega)
def CS(zs zs':List Int)(B:Int)(k:Nat):Prop:=(k≤15∧CY zs zs' B k)∨(k=16∧CZ zs zs' B)
theorem Tryz.arr124:(Tryz.prog.info? 124).map (·.size)=some 16:=by kernel_rfl
theorem carry_any(zs:List Int)(B:Int)(w:World)(D:zs.length=16)(M:∀z∈zs,-B≤z∧z≤B)(t:0≤B)(a2:B≤576460752303423488):
  Calls Tryz.prog 164 #[.agg (ints .i64 zs).toArray] w fun e O=>∃a:List Int,e=.returned (.agg (ints .i64 a).toArray)∧CZ zs a B∧Below w.heap.size w O:=by
 obtain⟨G,L⟩:=jq2 (CY.start D M t) (Blk.made w (ints .i64 zs) 124)
 clear D M
 go_enter Tryz.func164,Tryz.ntmps164
 go_wp2_with fail
 generalize K:(#[Value.int .i64 0,.int .i64 0,.int .i64 0,.int .i64 0,.int .i64 0,.int .i64 0,.int .i64 0,.int .i64 0,.int .i64 0,.int .i64 0,.int .i64 0,.int .i64 0,.int .i64 0,.int .i64 0,.int .i64 0,.int .i64 0]:Array Value)=Z
 have F:Hid (Z=(ints .i64 (List.replicate 16 0)).toArray):=jh (by rw[←K];rfl)
 clear K
 obtain⟨A,n⟩:=nxq w.heap.size
 have h1:Blk ((w.alloc (.cells (ints .i64 zs).toArray 124)).alloc (.cells Z 124)) A (ints .i64 zs) 124:=by
  rw[n]
  exact L.o.alloc _
 have h2:Blk ((w.alloc (.cells (ints .i64 zs).toArray 124)).alloc (.cells Z 124)) (A+1) (ints .i64 (List.replicate 16 0)) 124:=by
  rw[F.o]
  have:=Blk.made (w.alloc (.cells (ints .i64 zs).toArray 124)) (ints .i64 (List.replicate 16 0)) 124
  rw[n]
  simpa using this
 have I:Below w.heap.size w ((w.alloc (.cells (ints .i64 zs).toArray 124)).alloc (.cells Z 124)):=((Below.refl _ _).alloc (q101 _) _).alloc (by simp) _
 have p:w.heap.size≤A:=by omega
 rw[←n]
 generalize (w.alloc (.cells (ints .i64 zs).toArray 124)).alloc (.cells Z 124)=w0 at*
 obtain⟨E,C,H⟩:=jq3 h1 h2 I
 clear h1 h2 I n F
 go_loopw [3] (fun i wr=>∃(k:Nat) (a:List Int),k≤16∧i=.int .i64 k∧CS zs a B k∧Blk wr A (ints .i64 a) 124∧Blk wr (A+1) (ints .i64 (List.replicate 16 0)) 124∧Below w.heap.size w wr) (fun i _=>16 - (intOf i).toNat)
 case atStart=>exact⟨0,zs,by omega,rfl,Or.inl ⟨by omega,G.o⟩,E.o,C.o,H.o⟩
 case round=>
  clear G E C H L
  obtain⟨k,a,hk,rfl,R,b,g,f⟩:=hrel
  have a0:(0:Int)≤(k:Int):=Int.natCast_nonneg _
  rcases R with⟨a1,c⟩|⟨rfl,m⟩
  ·have J:=c.len
   have hh:=c.here
   have X:=b.cell k
   rw[zas (by omega)]at X
   have fk:=b.free k
   by_cases U:k<15
   ·have S:=c.high (k+1) (by omega) (by omega)
    have q:=b.cell (k+1)
    rw[zas (by omega)]at q
    have Q:=b.free (k+1)
    have j:=c.step U t
    generalize a.getD k 0=x at*
    generalize a.getD (k+1) 0=y at*
    obtain⟨s,h,l,d⟩:=jq4 j b g f
    clear c j b g f J
    go_wp2_with fail
    go_roundw
    case rel=>
     refine⟨k+1,_,by omega,by go_num,Or.inl ⟨by omega,s.o⟩,?_,(l.o.far (by simp) _).far (by simp) _,(d.o.setCell p _).setCell p _⟩
     rw[←zbw,←zbw]
     exact(h.o.set k _).set (k+1) _
    case measure=>simp[intOf];omega
   have W:k=15:=by omega
   subst W
   have S:=c.low 0 (by omega)
   have q:=b.cell 0
   rw[zas (by omega)]at q
   have Q:=b.free 0
   have j:=c.last t
   generalize a.getD 15 0=x at*
   generalize a.getD 0 0=y at*
   obtain⟨s,h,l,d⟩:=jq4 j b g f
   clear c j b g f J
   go_wp2_with fail
   go_roundw
   case rel=>
    refine⟨16,_,by omega,by go_num,Or.inr ⟨rfl,s.o⟩,?_,(l.o.far (by simp) _).far (by simp) _,(d.o.setCell p _).setCell p _⟩
    rw[←zbw,←zbw]
    exact(h.o.set 15 _).set 0 _
   case measure=>simp[intOf]
  obtain⟨h,l,d,T⟩:=jq4 b g f m
  have u:Hid ((Tryz.prog.info? 124).map (·.size)=some (ints .i64 a).length):=jh (by rw[zaa,m.len];exact Tryz.arr124)
  have P:Hid ((ints .i64 a).length=(ints .i64 (List.replicate 16 0)).length):=jh (by rw[zaa,zaa,m.len];rfl)
  clear b g f m
  go_wp2_with (first|(refine zbd rfl _ _ rfl A rfl _ _ _ _ h.o q103 u.o ?_)|(refine zal rfl _ _ _ rfl (A+1) _ rfl rfl _ _ l.o P.o u.o (zah _ _) ?_;intro w5 N V))
  exact bodyPost_ret (v:=.agg (ints .i64 a).toArray) (zam (by rfl) _ (A+1) _ _ _ _ (by rfl) N q103 u.o) rfl ⟨a,rfl,T.o,d.o.grown V d.o.size (fun r Y=>by cases Y;omega)⟩
theorem list16(zs:List Int)(h:zs.length=16):zs=[zs.getD 0 0,zs.getD 1 0,zs.getD 2 0,zs.getD 3 0,zs.getD 4 0,zs.getD 5 0,zs.getD 6 0,zs.getD 7 0,zs.getD 8 0,zs.getD 9 0,zs.getD 10 0,zs.getD 11 0,zs.getD 12 0,zs.getD 13 0,zs.getD 14 0,zs.getD 15 0]:=by
 match zs,h with
 |[_,_,_,_,_,_,_,_,_,_,_,_,_,_,_,_],_=>rfl
def pairAt(l:List UInt8)(i:Nat):Int:=(l.getD (2*i) 0).toNat+256*(l.getD (2*i+1) 0).toNat
theorem pairAt_range(l:List UInt8)(i:Nat):0≤pairAt l i∧pairAt l i≤65535:=by
 unfold pairAt
 have h1:=(l.getD (2*i) 0).toNat_lt
 have h2:=(l.getD (2*i+1) 0).toNat_lt
 omega
theorem dV_pairs(zs:List Int)(l:List UInt8)(b:zs.length=16)(a:l.length=32)(h:∀i,i<16→zs.getD i 0=pairAt l i):dV zs=leN l:=by
 rw[list16 zs b,bytes32 l a]
 simp only[h 0 (by omega),h 1 (by omega),h 2 (by omega),h 3 (by omega),h 4 (by omega),h 5 (by omega),h 6 (by omega),h 7 (by omega),h 8 (by omega),h 9 (by omega),h 10 (by omega),h 11 (by omega),h 12 (by omega),h 13 (by omega),h 14 (by omega),h 15 (by omega)]
 simp only[dV,leN,pairAt,Nat.reduceMul,Nat.reduceAdd]
 omega
theorem or8(x y:Nat)(c:x<256)(e:y<256):bits .or .i64 (x:Int) ((y:Int)*256)=x+256*(y:Int):=by
 have a:(BitVec.ofInt 64 (x:Int)).toNat=x:=by rw[BitVec.toNat_ofInt];omega
 have d:(BitVec.ofInt 64 ((y:Int)*256)).toNat=256*y:=by rw[BitVec.toNat_ofInt];omega
 show IntKind.i64.wrap ((BitVec.ofInt 64 (x:Int)|||BitVec.ofInt 64 ((y:Int)*256)).toNat:Nat)=_
 rw[BitVec.toNat_or,a,d,Nat.or_comm]
 have:=Nat.two_pow_add_eq_or_of_lt (i:=8) (b:=x) (by simpa using c) y
 have h2:256*y|||x=256*y+x:=this.symm
 rw[h2,IntKind.wrap_i64]
 omega
structure InS(l:List UInt8)(zs:List Int)(k:Nat):Prop where
 len:zs.length=16
 low:∀i,i<k→zs.getD i 0=pairAt l i
theorem InS.step {l:List UInt8} {zs:List Int} {k:Nat}(h:InS l zs k)(b:k<16):InS l (zs.set k (pairAt l k)) (k+1):=by
 obtain⟨h1,h2⟩:=h
 refine⟨by simp[h1],fun i a=>?_⟩
 by_cases e:i=k
 ·subst e
  rw[zai (by omega)]
 rw[zae (by omega)]
 exact h2 i (by omega)
theorem InS.done {l:List UInt8} {zs:List Int}(h:InS l zs 16)(c:l.length=32):(∀z∈zs,0≤z∧z≤65535)∧dV zs=leN l:=by
 refine⟨fun z b=>?_,dV_pairs zs l h.len c h.low⟩
 obtain⟨i,a,rfl⟩:=List.getElem_of_mem b
 have d:=h.len
 have:=h.low i (by omega)
 rw[show zs[i]=zs.getD i 0 from by simp[List.getD,a],this]
 exact pairAt_range l i
/-- in: the digits of a Num. -/
theorem rin_any(l:List UInt8)(w:World)(hl:l.length=32):
  Calls Tryz.prog 133 #[.agg (l.map bval).toArray] w fun e w'=>∃zs:List Int,e=.returned (.agg (ints .i64 zs).toArray)∧zs.length=16∧(∀z∈zs,0≤z∧z≤65535)∧dV zs=leN l∧Below w.heap.size w w':=by
 have HL:=jh hl
 have hbx:=boxes3 w (l.map bval) (ints .i64 (List.replicate 16 0)) (ints .i64 (List.replicate 16 0)) 23 124 124
 have HBX:=jh hbx
 clear hl hbx
 go_enter Tryz.func133,Tryz.ntmps133
 go_wp2_with fail
 change Code.wp _ _ _ _ (((w.alloc (.cells (l.map bval).toArray 23)).alloc (.cells (ints .i64 (List.replicate 16 0)).toArray 124)).alloc (.cells (ints .i64 (List.replicate 16 0)).toArray 124))
 generalize ((w.alloc (.cells (l.map bval).toArray 23)).alloc (.cells (ints .i64 (List.replicate 16 0)).toArray 124)).alloc (.cells (ints .i64 (List.replicate 16 0)).toArray 124)=w0 at*
 obtain⟨h1,h2,h3,h4⟩:=HBX.o
 obtain⟨A,hA⟩:=nxq w.heap.size
 rw[←hA]at h1 h2 h3⊢
 have hA2:w.heap.size≤A:=by omega
 obtain⟨H1,H2,H3,H4⟩:=jq4 h1 h2 h3 h4
 clear h1 h2 h3 h4 HBX hA
 go_loopw [4] (fun i wr=>∃(k:Nat) (zs:List Int),k≤16∧i=.int .i64 k∧InS l zs k∧Blk wr A (l.map bval) 23∧Blk wr (A+1) (ints .i64 (List.replicate 16 0)) 124∧Blk wr (A+1+1) (ints .i64 zs) 124∧Below w.heap.size w wr) (fun i _=>16 - (intOf i).toNat)
 case atStart=>exact⟨0,_,by omega,rfl,⟨rfl,fun i hi=>by omega⟩,H1.o,H2.o,H3.o,H4.o⟩
 case round=>
  clear H1 H2 H3 H4
  obtain⟨k,zs,hk,rfl,hin,hb1,hb2,hb3,hbel⟩:=hrel
  have i0':(0:Int)≤(k:Int):=Int.natCast_nonneg _
  have hl16:=hin.len
  by_cases hlt:k<16
  ·have hl:=HL.o
   have e1:=hb1.cell (2*k)
   rw[zbg (by omega)]at e1
   have e2:=hb1.cell (2*k+1)
   rw[zbg (by omega)]at e2
   have e3:=hb3.cell k
   rw[zas (by omega)]at e3
   have fk:=hb3.free k
   have i1:(k:Int)<16:=by omega
   have s1:IntKind.i64.wrap (2*(k:Int))=2*k:=IntWalk.i64_in _ (by omega)
   have s2:IntKind.i64.wrap (2*(k:Int)+1)=2*k+1:=IntWalk.i64_in _ (by omega)
   have s3:(2*(k:Int)).toNat=2*k:=by omega
   have s4:(2*(k:Int)+1).toNat=2*k+1:=by omega
   have s5:(0:Int)≤2*(k:Int):=by omega
   have s6:(0:Int)≤2*(k:Int)+1:=by omega
   have s7:2*(k:Int)<32:=by omega
   have s8:2*(k:Int)+1<32:=by omega
   have hx:=(l.getD (2*k) 0).toNat_lt
   have hy:=(l.getD (2*k+1) 0).toNat_lt
   have hor:=or8 (l.getD (2*k) 0).toNat (l.getD (2*k+1) 0).toNat (by simpa using hx) (by simpa using hy)
   have hst:=hin.step hlt
   have hpa:pairAt l k=(l.getD (2*k) 0).toNat+256*((l.getD (2*k+1) 0).toNat:Int):=rfl
   rw[hpa,←hor]at hst
   generalize (l.getD (2*k) 0).toNat=x at*
   generalize (l.getD (2*k+1) 0).toNat=y at*
   have hy2:y<256:=by simpa using hy
   have hx2:x<256:=by simpa using hx
   have W1:Hid (wrap64 (x:Int)=x):=jh (by rw[←IntWalk.i64_left];exact IntWalk.i64_in _ (by omega))
   have W2:Hid (wrap64 (y:Int)=y):=jh (by rw[←IntWalk.i64_left];exact IntWalk.i64_in _ (by omega))
   have W3:Hid (wrap64 ((y:Int)*256)=y*256):=jh (by rw[←IntWalk.i64_left];exact IntWalk.i64_in _ (by omega))
   obtain⟨HST,HB1,HB2,HB3,HBE⟩:=jq5 hst hb1 hb2 hb3 hbel
   clear hin hst hb1 hb2 hb3 hbel hl16 hl hor hpa hx hy hx2 hy2
   go_wp2_with fail
   go_region
   go_wp2_with fail
   go_roundw
   case rel=>
    rw[W1.o,W2.o,W3.o]
    refine⟨k+1,_,by omega,by go_num,HST.o,HB1.o.far (by simp;omega) _,HB2.o.far (by simp) _,?_,(HBE.o.setCell (by simp;omega) _).drew⟩
    rw[←zbw]
    exact HB3.o.set k _
   case measure=>simp[intOf];omega
  have hk':k=16:=by omega
  subst hk'
  obtain⟨HB2,HB3,HBE,HIN⟩:=jq4 hb2 hb3 hbel hin
  have hi1:Hid ((Tryz.prog.info? 124).map (·.size)=some (ints .i64 zs).length):=jh (by rw[zaa,hin.len];exact Tryz.arr124)
  have hl1:Hid ((ints .i64 zs).length=(ints .i64 (List.replicate 16 0)).length):=jh (by rw[zaa,zaa,hin.len];rfl)
  clear hb1 hb2 hb3 hbel hin hl16
  go_wp2_with (first|(refine zbd rfl _ _ rfl (A+1+1) rfl _ _ _ _ HB3.o q103 hi1.o ?_)|(refine zal rfl _ _ _ rfl (A+1) _ rfl rfl _ _ HB2.o hl1.o hi1.o (zah _ _) ?_;intro w5 hb5 hg5))
  obtain⟨q1,q2⟩:=HIN.o.done HL.o
  exact bodyPost_ret (v:=.agg (ints .i64 zs).toArray) (zam (by rfl) _ (A+1) _ _ _ _ (by rfl) hb5 q103 hi1.o) rfl ⟨zs,rfl,HIN.o.len,q1,q2,HBE.o.grown hg5 HBE.o.size (fun r hr=>by cases hr;omega)⟩
def pP:Int:=57896044618658097711785492504343953926634992332820282019728792003956564819949
def pN:Nat:=57896044618658097711785492504343953926634992332820282019728792003956564819949
theorem pP_nat:pP=(pN:Int):=rfl
theorem bigM_p:bigM=2*pP+38:=by decide+kernel
def IsEl(v:Value)(x:Int):Prop:=∃zs:List Int,v=.agg (ints .i64 zs).toArray∧zs.length=16∧(∀z∈zs,-131072≤z∧z≤131072)∧∃q,dV zs=x+pP*q
theorem CZ.el {zs a:List Int} {B:Int}(h:CZ zs a B)(g:B≤1048576):(∀z∈a,-131072≤z∧z≤131072)∧∃q,dV a=dV zs+pP*q:=by
 obtain⟨h1,⟨c,c1,c2,c3,e,f⟩,b⟩:=h
 refine⟨zej (P:=fun z=> -131072≤z∧z≤131072) h1 (fun i d=>?_),-2*c,?_⟩
 ·rcases q151 i with rfl|h0
  ·omega
  have:=b i h0 d
  omega
 rw[c3,bigM_p]
 grind
theorem zcq:∀(zs:List Int) (k:Nat),k<zs.length→dV (zs.take (k+1))=dV (zs.take k)+zs.getD k 0*65536^k
 |[],k,h=>by simp at h
 |a::r,0,h=>by simp[dV]
 |a::r,k+1,h=>by
  have:=zcq r k (by simpa using h)
  simp only[q173,dV,List.getD_cons_succ,q124]at this⊢
  rw[this]
  grind
structure AddS(xs ys zs:List Int)(k:Nat):Prop where
 len:zs.length=16
 val:dV zs=dV xs+dV (ys.take k)
 high:∀i,k≤i→i<16→zs.getD i 0=xs.getD i 0
 low:∀i,i<k→i<16→ -262144≤zs.getD i 0∧zs.getD i 0≤262144
theorem AddS.step {a b zs:List Int} {k:Nat}(h:AddS a b zs k)(j:k<16)(l:∀z∈a,-131072≤z∧z≤131072)(f:∀z∈b,-131072≤z∧z≤131072)(p:a.length=16)(q:b.length=16):
  AddS a b (zs.set k (a.getD k 0+b.getD k 0)) (k+1):=by
 obtain⟨h1,h2,d,m⟩:=h
 have r:=zce (P:=fun z=> -131072≤z∧z≤131072) l (i:=k) (by omega)
 have n:=zce (P:=fun z=> -131072≤z∧z≤131072) f (i:=k) (by omega)
 refine⟨by simp[h1],?_,fun i g c=>?_,fun i g c=>?_⟩
 ·rw[dV_set _ _ _ (by omega),h2,d k (q101 _) j,zcq _ _ (by omega)]
  grind
 ·rw[zae (by omega)]
  exact d i (by omega) c
 by_cases e:i=k
 ·subst e
  rw[zai (by omega)]
  omega
 rw[zae (by omega)]
 exact m i (by omega) c
structure SubS(xs ys zs:List Int)(k:Nat):Prop where
 len:zs.length=16
 val:dV zs=dV xs - dV (ys.take k)
 high:∀i,k≤i→i<16→zs.getD i 0=xs.getD i 0
 low:∀i,i<k→i<16→ -262144≤zs.getD i 0∧zs.getD i 0≤262144
theorem SubS.step {a b zs:List Int} {k:Nat}(h:SubS a b zs k)(j:k<16)(l:∀z∈a,-131072≤z∧z≤131072)(f:∀z∈b,-131072≤z∧z≤131072)(p:a.length=16)(q:b.length=16):
  SubS a b (zs.set k (a.getD k 0 - b.getD k 0)) (k+1):=by
 obtain⟨h1,h2,d,m⟩:=h
 have r:=zce (P:=fun z=> -131072≤z∧z≤131072) l (i:=k) (by omega)
 have n:=zce (P:=fun z=> -131072≤z∧z≤131072) f (i:=k) (by omega)
 refine⟨by simp[h1],?_,fun i g c=>?_,fun i g c=>?_⟩
 ·rw[dV_set _ _ _ (by omega),h2,d k (q101 _) j,zcq _ _ (by omega)]
  grind
 ·rw[zae (by omega)]
  exact d i (by omega) c
 by_cases e:i=k
 ·subst e
  rw[zai (by omega)]
  omega
 rw[zae (by omega)]
 exact m i (by omega) c
theorem rsub_any(u v:Value)(x y:Int)(w:World)(hu:IsEl u x)(hv:IsEl v y):
  Calls Tryz.prog 135 #[u,v] w fun e w'=>∃r,e=.returned r∧IsEl r (x - y)∧Below w.heap.size w w':=by
 obtain⟨d,rfl,la,T,qa,Z⟩:=hu
 obtain⟨f,rfl,X,L,qb,M⟩:=hv
 obtain⟨K,S,H,n,VA,VB⟩:=jq6 T L la X Z M
 have Y:=jh (boxes3 w (ints .i64 d) (ints .i64 f) (ints .i64 (List.replicate 16 0)) 124 124 124)
 clear T L la X Z M
 go_enter Tryz.func135,Tryz.ntmps135
 go_wp2_with fail
 change Code.wp _ _ _ _ (((w.alloc (.cells (ints .i64 d).toArray 124)).alloc (.cells (ints .i64 f).toArray 124)).alloc (.cells (ints .i64 (List.replicate 16 0)).toArray 124))
 generalize ((w.alloc (.cells (ints .i64 d).toArray 124)).alloc (.cells (ints .i64 f).toArray 124)).alloc (.cells (ints .i64 (List.replicate 16 0)).toArray 124)=w0 at*
 obtain⟨h1,h2,G,R⟩:=Y.o
 obtain⟨A,N⟩:=nxq w.heap.size
 rw[←N]at h1 h2 G⊢
 have ah:w.heap.size≤A:=by omega
 obtain⟨W,J,O,Q⟩:=jq4 h1 h2 G R
 clear h1 h2 G R Y N
 go_loopw [5] (fun i wr=>∃(k:Nat) (zs:List Int),k≤16∧i=.int .i64 k∧SubS d f zs k∧Blk wr A (ints .i64 zs) 124∧Blk wr (A+1) (ints .i64 f) 124∧Blk wr (A+1+1) (ints .i64 (List.replicate 16 0)) 124∧Below w.heap.size w wr) (fun i _=>16 - (intOf i).toNat)
 case atStart=>exact⟨0,d,by omega,rfl,⟨H.o,by simp[dV],fun i _ _=>rfl,fun i C=>by omega⟩,W.o,J.o,O.o,Q.o⟩
 case round=>
  clear W J O Q
  obtain⟨k,zs,hk,rfl,c,g,s,B,m⟩:=hrel
  have ag:(0:Int)≤(k:Int):=Int.natCast_nonneg _
  have h:=c.len
  by_cases a0:k<16
  ·have e1:=g.cell k
   rw[zas (by omega),c.high k (q101 _) a0]at e1
   have e2:=s.cell k
   rw[zas (by have:=n.o;omega)]at e2
   have fk:=g.free k
   have i1:(k:Int)<16:=by omega
   have a2:=c.step a0 K.o S.o H.o n.o
   have b1:=zce (P:=fun z=> -131072≤z∧z≤131072) K.o (i:=k) (by have:=H.o;omega)
   have b2:=zce (P:=fun z=> -131072≤z∧z≤131072) S.o (i:=k) (by have:=n.o;omega)
   generalize d.getD k 0=a at*
   generalize f.getD k 0=b at*
   obtain⟨af,ad⟩:=b1
   obtain⟨ac,ae⟩:=b2
   have W1:Hid (wrap64 (a - b)=a - b):=jh (by rw[←IntWalk.i64_left];exact IntWalk.i64_in _ (by omega))
   obtain⟨aa,D,a3,l,j⟩:=jq5 a2 g s B m
   clear c a2 g s B m h
   go_wp2_with fail
   go_region
   go_wp2_with fail
   go_roundw
   case rel=>
    try rw[W1.o]
    refine⟨k+1,_,by omega,by go_num,aa.o,?_,a3.o.far (by simp) _,l.o.far (by simp;omega) _,(j.o.setCell (by simp;omega) _).drew⟩
    rw[←zbw]
    exact D.o.set k _
   case measure=>simp[intOf];omega
  have a7:k=16:=by omega
  subst a7
  have F:=c.val
  rw[q108 (by have:=n.o;omega)]at F
  have I:∀z∈zs,-262144≤z∧z≤262144:=zej (P:=fun z=> -262144≤z∧z≤262144) h (fun i C=>c.low i C C)
  obtain⟨D,l,j,a4⟩:=jq4 g B m F
  have a6:Hid ((Tryz.prog.info? 124).map (·.size)=some (ints .i64 zs).length):=jh (by rw[zaa,h];exact Tryz.arr124)
  have HC:=jh (carry_any zs 262144 wr h I (by omega) (by omega))
  clear g s B m c h F I
  go_wp2_with (refine zbd rfl _ _ rfl A rfl _ _ _ _ D.o q103 a6.o ?_)
  refine HC.o.mono ?_
  rintro e w5 ⟨p,rfl,t,E⟩
  have a8:Hid (Blk w5 (A+1+1) (ints .i64 (List.replicate 16 0)) 124):=jh (l.o.same (E.block _ l.o.lt))
  have a1:=jh (j.o.trans (E.mono j.o.size))
  have U:Hid ((Tryz.prog.info? 124).map (·.size)=some (ints .i64 p).length):=jh (by rw[zaa,t.len];exact Tryz.arr124)
  have a9:Hid ((ints .i64 p).length=(ints .i64 (List.replicate 16 0)).length):=jh (by rw[zaa,zaa,t.len];rfl)
  have V:=jh t
  clear E t
  go_wp2_with (refine zal rfl _ _ _ rfl (A+1+1) _ rfl rfl _ _ a8.o a9.o U.o (zah _ _) ?_;intro w6 a5 ab)
  obtain⟨q1,q,q2⟩:=V.o.el (by omega)
  refine bodyPost_ret (v:=.agg (ints .i64 p).toArray) (zam (by rfl) _ (A+1+1) _ _ _ _ (by rfl) a5 q103 U.o) rfl ⟨_,rfl,⟨p,rfl,V.o.len,q1,qa - qb+q,?_⟩,a1.o.grown ab a1.o.size (fun r hr=>by cases hr;omega)⟩
  rw[q2,a4.o,VA.o,VB.o]
  grind
structure MulS(xs ys T:List Int)(i k:Nat):Prop where
 len:T.length=31
 val:dV T=dV (xs.take i)*dV ys+xs.getD i 0*dV (ys.take k)*65536^i
 bnd:∀j,j<31→ -((16*(i:Int)+k)*17179869184)≤T.getD j 0∧T.getD j 0≤(16*(i:Int)+k)*17179869184
theorem prod_bound {a b:Int}(i: -131072≤a)(g:a≤131072)(k: -131072≤b)(d:b≤131072): -17179869184≤a*b∧a*b≤17179869184:=by
 have h1:(a+131072)*(b+131072)≥0:=q155 (by omega) (by omega)
 have h2:(131072 - a)*(131072 - b)≥0:=q155 (by omega) (by omega)
 have e:(a+131072)*(131072 - b)≥0:=q155 (by omega) (by omega)
 have l:(131072 - a)*(b+131072)≥0:=q155 (by omega) (by omega)
 have c:(a+131072)*(b+131072)=a*b+131072*a+131072*b+17179869184:=by grind
 have f:(131072 - a)*(131072 - b)=a*b - 131072*a - 131072*b+17179869184:=by grind
 have j:(a+131072)*(131072 - b)=-(a*b)+131072*a - 131072*b+17179869184:=by grind
 have h:(131072 - a)*(b+131072)=-(a*b) - 131072*a+131072*b+17179869184:=by grind
 omega
theorem MulS.step {a b T:List Int} {i k:Nat}(h:MulS a b T i k)(q:i<16)(s:k<16)(m:∀z∈a,-131072≤z∧z≤131072)(f:∀z∈b,-131072≤z∧z≤131072)(n:a.length=16)(r:b.length=16):
  MulS a b (T.set (i+k) (T.getD (i+k) 0+a.getD i 0*b.getD k 0)) i (k+1):=by
 obtain⟨h1,h2,g⟩:=h
 have d:=zce (P:=fun z=> -131072≤z∧z≤131072) m (i:=i) (by omega)
 have c:=zce (P:=fun z=> -131072≤z∧z≤131072) f (i:=k) (by omega)
 have p:=prod_bound d.1 d.2 c.1 c.2
 refine⟨by simp[h1],?_,fun j l=>?_⟩
 ·rw[dV_set _ _ _ (by omega),h2,zcq _ _ (by omega),Int.pow_add]
  grind
 have t:=g j l
 by_cases e:j=i+k
 ·subst e
  rw[zai (by omega)]
  omega
 rw[zae (by omega)]
 omega
theorem MulS.next {a b T:List Int} {i:Nat}(h:MulS a b T i 16)(f:i<16)(e:a.length=16)(g:b.length=16):MulS a b T (i+1) 0:=by
 obtain⟨h1,h2,c⟩:=h
 refine⟨h1,?_,fun j d=>?_⟩
 ·rw[h2,zcq a i (by omega),q108 (l:=b) (by omega)]
  simp only[List.take_zero,dV]
  grind
 have:=c j d
 omega
theorem MulS.start {b a:List Int}:MulS b a (List.replicate 31 0) 0 0:=by
 refine⟨rfl,?_,fun j c=>?_⟩
 ·simp[dV,List.replicate]
 have:(List.replicate 31 (0:Int)).getD j 0=0:=by rw[List.getD_eq_getElem?_getD,List.getElem?_replicate];split<;>rfl
 rw[this]
 omega
structure OutS(T o:List Int)(i:Nat):Prop where
 len:o.length=16
 low:∀j,j<i→j<16→o.getD j 0=if j<15 then T.getD j 0+38*T.getD (j+16) 0 else T.getD j 0
theorem dV_append:∀(c b:List Int),dV (c++b)=dV c+65536^c.length*dV b
 |[],b=>by simp[dV]
 |a::r,b=>by
  have:=dV_append r b
  simp only[List.cons_append,dV,this,q106,q124]
  grind
theorem OutS.fold {T o:List Int}(h:OutS T o 16)(a:T.length=31):dV o=dV (T.take 16)+38*dV (T.drop 16):=by
 obtain⟨h1,h2⟩:=h
 have b:T.drop 16=[T.getD 16 0,T.getD 17 0,T.getD 18 0,T.getD 19 0,T.getD 20 0,T.getD 21 0,T.getD 22 0,T.getD 23 0,T.getD 24 0,T.getD 25 0,T.getD 26 0,T.getD 27 0,T.getD 28 0,T.getD 29 0,T.getD 30 0]:=by
  match T,a with
  |[_,_,_,_,_,_,_,_,_,_,_,_,_,_,_,_,_,_,_,_,_,_,_,_,_,_,_,_,_,_,_],_=>rfl
 have ht:T.take 16=[T.getD 0 0,T.getD 1 0,T.getD 2 0,T.getD 3 0,T.getD 4 0,T.getD 5 0,T.getD 6 0,T.getD 7 0,T.getD 8 0,T.getD 9 0,T.getD 10 0,T.getD 11 0,T.getD 12 0,T.getD 13 0,T.getD 14 0,T.getD 15 0]:=by
  match T,a with
  |[_,_,_,_,_,_,_,_,_,_,_,_,_,_,_,_,_,_,_,_,_,_,_,_,_,_,_,_,_,_,_],_=>rfl
 rw[b,ht,list16 o h1]
 simp only[h2 0 (by omega) (by omega),h2 1 (by omega) (by omega),h2 2 (by omega) (by omega),h2 3 (by omega) (by omega),h2 4 (by omega) (by omega),h2 5 (by omega) (by omega),h2 6 (by omega) (by omega),h2 7 (by omega) (by omega),h2 8 (by omega) (by omega),h2 9 (by omega) (by omega),h2 10 (by omega) (by omega),h2 11 (by omega) (by omega),h2 12 (by omega) (by omega),h2 13 (by omega) (by omega),h2 14 (by omega) (by omega),h2 15 (by omega) (by omega)]
 simp only[Nat.reduceLT,if_true,if_false,Nat.reduceAdd,dV]
 omega
theorem OutS.done {T o:List Int}(h:OutS T o 16)(a:T.length=31):dV o=dV T - 2*pP*dV (T.drop 16):=by
 have b:2*pP=bigM - 38:=by rw[bigM_p];omega
 have e:dV T=dV (T.take 16)+bigM*dV (T.drop 16):=by
  have:=dV_append (T.take 16) (T.drop 16)
  rw[q130,q107,show min 16 T.length=16 from by omega]at this
  exact this
 rw[b,h.fold a,e]
 grind
theorem CZ.sharp {zs b:List Int} {B E:Int}(h:CZ zs b B)(k:E≤1152921504606846976)(s:0≤E)(h1: -E≤dV zs)(h2:dV zs≤bigM+E):∀z∈b,-38≤z∧z≤65573:=by
 obtain⟨f,⟨c,c1,c2,c3,H,t⟩,a⟩:=h
 have C: -1≤c∧c≤1:=by
  have e:=list16 b f
  have n:=a 1 (by omega) (by omega)
  have G:=a 2 (by omega) (by omega)
  have m:=a 3 (by omega) (by omega)
  have F:=a 4 (by omega) (by omega)
  have v:=a 5 (by omega) (by omega)
  have A:=a 6 (by omega) (by omega)
  have I:=a 7 (by omega) (by omega)
  have u:=a 8 (by omega) (by omega)
  have l:=a 9 (by omega) (by omega)
  have r:=a 10 (by omega) (by omega)
  have y:=a 11 (by omega) (by omega)
  have p:=a 12 (by omega) (by omega)
  have x:=a 13 (by omega) (by omega)
  have D:=a 14 (by omega) (by omega)
  have q:=a 15 (by omega) (by omega)
  have j:0≤dV b - 38*c∧dV b - 38*c<bigM:=by
   have d:bigM=115792089237316195423570985008687907853269984665640564039457584007913129639936:=by decide+kernel
   rw[d,e]
   simp only[dV]
   omega
  have d:bigM=115792089237316195423570985008687907853269984665640564039457584007913129639936:=by decide+kernel
  rw[c3,d]at j
  rw[d]at h2
  omega
 refine zej (P:=fun z=> -38≤z∧z≤65573) f (fun i g=>?_)
 rcases q151 i with rfl|h0
 ·omega
 have:=a i h0 g
 omega
theorem CZ.near {zs d:List Int} {B:Int}(h:CZ zs d B)(s:0≤B): -(38*(B / 32768+2))≤dV d∧dV d≤bigM+38*(B / 32768+2):=by
 obtain⟨f,⟨c,c1,c2,c3,C,p⟩,a⟩:=h
 have e:=list16 d f
 have k:=a 1 (by omega) (by omega)
 have z:=a 2 (by omega) (by omega)
 have j:=a 3 (by omega) (by omega)
 have y:=a 4 (by omega) (by omega)
 have r:=a 5 (by omega) (by omega)
 have v:=a 6 (by omega) (by omega)
 have D:=a 7 (by omega) (by omega)
 have q:=a 8 (by omega) (by omega)
 have i:=a 9 (by omega) (by omega)
 have n:=a 10 (by omega) (by omega)
 have u:=a 11 (by omega) (by omega)
 have l:=a 12 (by omega) (by omega)
 have t:=a 13 (by omega) (by omega)
 have x:=a 14 (by omega) (by omega)
 have m:=a 15 (by omega) (by omega)
 have g:bigM=115792089237316195423570985008687907853269984665640564039457584007913129639936:=by decide+kernel
 have A:0≤dV d - 38*c∧dV d - 38*c<115792089237316195423570985008687907853269984665640564039457584007913129639936:=by
  rw[e]
  simp only[dV]
  omega
 rw[g]
 generalize B / 32768=b at*
 omega
theorem rone_el(n:Int)(w:World)(h1: -131072≤n)(h2:n≤131072):
  Calls Tryz.prog 126 #[.int .i64 n] w fun e a=>∃r,e=.returned r∧IsEl r n∧Below w.heap.size w a:=by
 have c:=jh (boxes2 w (ints .i64 (List.replicate 16 0)) (ints .i64 (List.replicate 16 0)) 124 124)
 go_enter Tryz.func126,Tryz.ntmps126
 go_wp2_with (fail)
 refine bodyPost_ret (v:=.agg (ints .i64 [n,0,0,0,0,0,0,0,0,0,0,0,0,0,0,0]).toArray) ?_ rfl ⟨_,rfl,⟨[n,0,0,0,0,0,0,0,0,0,0,0,0,0,0,0],rfl,rfl,fun z b=>?_,0,by simp[dV]⟩,?_⟩
 ·exact zam (by rfl) _ w.heap.size _ _ _ _ (by rfl) ((Blk.made w (ints .i64 [n,0,0,0,0,0,0,0,0,0,0,0,0,0,0,0]) 124).alloc _) q103 Tryz.arr124
 ·simp at b
  omega
 exact((Below.refl _ _).alloc (q101 _) _).alloc (by simp) _
theorem bound_i64 {z:Int} {i k:Nat}(a:i≤16)(b:k≤16)(h: -((16*(i:Int)+k)*17179869184)≤z∧z≤(16*(i:Int)+k)*17179869184): -4672924418048≤z∧z≤4672924418048:=by omega
theorem OutS.step1 {T o:List Int} {i:Nat}(h:OutS T o i)(a:i<15):OutS T ((o.set i (T.getD i 0)).set i (T.getD i 0+38*T.getD (i+16) 0)) (i+1):=by
 obtain⟨h1,h2⟩:=h
 refine⟨by simp[h1],fun j c b=>?_⟩
 by_cases e:j=i
 ·subst e
  rw[zai (by simp;omega),if_pos a]
 rw[zae (by omega),zae (by omega)]
 exact h2 j (by omega) b
theorem OutS.step2 {T o:List Int}(h:OutS T o 15):OutS T (o.set 15 (T.getD 15 0)) 16:=by
 obtain⟨h1,h2⟩:=h
 refine⟨by simp[h1],fun j b a=>?_⟩
 by_cases e:j=15
 ·subst e
  rw[zai (by omega),if_neg (by omega)]
 rw[zae (by omega)]
 exact h2 j (by omega) a
theorem OutS.bnd {T o:List Int}(h:OutS T o 16)(b:∀j,j<31→ -4672924418048≤T.getD j 0∧T.getD j 0≤4672924418048):∀z∈o,-281474976710656≤z∧z≤281474976710656:=by
 refine zej (P:=fun z=> -281474976710656≤z∧z≤281474976710656) h.len (fun i a=>?_)
 rw[h.low i a a]
 have h1:=b i (by omega)
 split
 ·have h2:=b (i+16) (by omega)
  omega
 omega
theorem rmul_any(u v:Value)(x y:Int)(w:World)(hu:IsEl u x)(hv:IsEl v y):
  Calls Tryz.prog 124 #[u,v] w fun e w'=>∃r,e=.returned r∧IsEl r (x*y)∧Below w.heap.size w w':=by
 obtain⟨s,rfl,la,ba,qa,va⟩:=hu
 obtain⟨F,rfl,lb,bb,qb,vb⟩:=hv
 obtain⟨HA,HB,V,Y,VA,VB⟩:=jq6 ba bb la lb va vb
 have ai:=jh (boxes4 w (ints .i64 s) (ints .i64 F) (ints .i64 (List.replicate 16 0)) (ints .i64 (List.replicate 31 0)) 124 124 124 211)
 clear ba bb la lb va vb
 go_enter Tryz.func124,Tryz.ntmps124
 go_wp2_with fail
 change Code.wp _ _ _ _ ((((w.alloc (.cells (ints .i64 s).toArray 124)).alloc (.cells (ints .i64 F).toArray 124)).alloc (.cells (ints .i64 (List.replicate 16 0)).toArray 124)).alloc (.cells (ints .i64 (List.replicate 31 0)).toArray 211))
 generalize (((w.alloc (.cells (ints .i64 s).toArray 124)).alloc (.cells (ints .i64 F).toArray 124)).alloc (.cells (ints .i64 (List.replicate 16 0)).toArray 124)).alloc (.cells (ints .i64 (List.replicate 31 0)).toArray 211)=w0 at*
 obtain⟨h1,h2,U,h4,h5⟩:=ai.o
 obtain⟨A,hA⟩:=nxq w.heap.size
 rw[←hA]at h1 h2 U h4⊢
 have bi:w.heap.size≤A:=by omega
 obtain⟨D,q,g,m,f⟩:=jq5 h1 h2 U h4 h5
 clear h1 h2 U h4 h5 ai hA
 go_loopw [6] (fun i wr=>∃(k:Nat) (T:List Int),k≤16∧i=.int .i64 k∧MulS s F T k 0∧Blk wr A (ints .i64 s) 124∧Blk wr (A+1) (ints .i64 F) 124∧Blk wr (A+1+1) (ints .i64 (List.replicate 16 0)) 124∧Blk wr (A+1+1+1) (ints .i64 T) 211∧Below w.heap.size w wr) (fun i _=>16 - (intOf i).toNat)
 case atStart=>exact⟨0,_,by omega,rfl,MulS.start,D.o,q.o,g.o,m.o,f.o⟩
 case round=>
  clear D q g m f
  obtain⟨i,p,hi,rfl,K,B,C,n,d,h⟩:=hrel
  have bg:(0:Int)≤(i:Int):=Int.natCast_nonneg _
  by_cases al:i<16
  ·have i1:(i:Int)<16:=by omega
   obtain⟨D,q,g,m,f,H6⟩:=jq6 B C n d h K
   clear B C n d h K
   go_wp2_with fail
   obtain⟨wo,rfl⟩:=nxq wr
   go_loopw [7] (fun j wr=>∃(k:Nat) (T:List Int),k≤16∧j=.int .i64 k∧MulS s F T i k∧Blk wr A (ints .i64 s) 124∧Blk wr (A+1) (ints .i64 F) 124∧Blk wr (A+1+1) (ints .i64 (List.replicate 16 0)) 124∧Blk wr (A+1+1+1) (ints .i64 T) 211∧Below w.heap.size w wr) (fun j _=>16 - (intOf j).toNat)
   case atStart=>exact⟨0,p,by omega,rfl,H6.o,D.o,q.o,g.o,m.o,f.o⟩
   case round=>
    clear D q g m f H6
    obtain⟨k,T,hk,rfl,M,B,C,n,d,h⟩:=hrel
    have am:(0:Int)≤(k:Int):=Int.natCast_nonneg _
    by_cases ag:k<16
    ·have j1:(k:Int)<16:=by omega
     have e1:=B.cell i
     rw[zas (by have:=V.o;omega)]at e1
     have e2:=C.cell k
     rw[zas (by have:=Y.o;omega)]at e2
     have e3:=d.cell (i+k)
     rw[zas (by have:=M.len;omega)]at e3
     have f3:=d.free (i+k)
     have I:=M.step al ag HA.o HB.o V.o Y.o
     have L:=zce (P:=fun z=> -131072≤z∧z≤131072) HA.o (i:=i) (by have:=V.o;omega)
     have Q:=zce (P:=fun z=> -131072≤z∧z≤131072) HB.o (i:=k) (by have:=Y.o;omega)
     have b3:=bound_i64 (by omega) (by omega) (M.bnd (i+k) (by omega))
     have b4:=prod_bound L.1 L.2 Q.1 Q.2
     generalize s.getD i 0=a at*
     generalize F.getD k 0=b at*
     generalize T.getD (i+k) 0=t at*
     obtain⟨bc,av⟩:=b3
     obtain⟨bf,b5⟩:=b4
     have s1:IntKind.i64.wrap ((i:Int)+(k:Int))=(i:Int)+k:=IntWalk.i64_in _ (by omega)
     have s2:((i:Int)+(k:Int)).toNat=i+k:=by omega
     have s3:(0:Int)≤(i:Int)+(k:Int):=by omega
     have s4:(i:Int)+(k:Int)<31:=by omega
     have W1:Hid (wrap64 (a*b)=a*b):=jh (by rw[←IntWalk.i64_left];exact IntWalk.i64_in _ (by omega))
     have W:Hid (wrap64 (t+a*b)=t+a*b):=jh (by rw[←IntWalk.i64_left];exact IntWalk.i64_in _ (by omega))
     obtain⟨S,D,q,g,m,f⟩:=jq6 I B C n d h
     clear B C n d h I M L Q bc av bf b5
     go_wp2_with fail
     go_region
     go_wp2_with fail
     go_roundw
     case rel=>
      rw[W1.o,W.o]
      refine⟨k+1,_,by omega,by go_num,S.o,D.o.far (by simp;omega) _,q.o.far (by simp;omega) _,g.o.far (by simp) _,?_,(f.o.setCell (by simp;omega) _).drew⟩
      rw[←zbw]
      exact m.o.set (i+k) _
     case measure=>simp[intOf];omega
    have a3:k=16:=by omega
    subst a3
    have aj:=M.next al V.o Y.o
    obtain⟨D,q,g,m,f,aw⟩:=jq6 B C n d h aj
    clear B C n d h M aj
    go_wp2_with fail
    go_roundw
    case rel=>exact⟨i+1,T,by omega,by go_num,aw.o,D.o,q.o,g.o,m.o,f.o⟩
    case measure=>simp[intOf];omega
  have ay:i=16:=by omega
  subst ay
  have ak:=K.len
  have a6:∀j,j<31→ -4672924418048≤p.getD j 0∧p.getD j 0≤4672924418048:=fun j hj=>bound_i64 (i:=16) (k:=0) (by omega) (by omega) (K.bnd j hj)
  have Z:=K.val
  rw[q108 (l:=s) (by have:=V.o;omega),List.take_zero]at Z
  simp only[dV,Int.mul_zero,Int.zero_mul,Int.add_zero]at Z
  obtain⟨a5,a1,au⟩:=jq3 ak a6 Z
  obtain⟨O,hO⟩:=nxq wr.heap.size
  have bh:A+1+1+1<O:=by have:=d.lt;omega
  have a0:=jh (Blk.made wr (ints .i64 (List.replicate 16 0)) 124)
  rw[←hO]at a0
  obtain⟨g,m,f⟩:=jq3 (n.alloc (.cells (ints .i64 (List.replicate 16 0)).toArray 124)) (d.alloc (.cells (ints .i64 (List.replicate 16 0)).toArray 124)) (h.alloc h.size (.cells (ints .i64 (List.replicate 16 0)).toArray 124))
  clear B C n d h K ak a6 Z
  go_wp2_with fail
  rw[←hO]
  change Code.wp _ _ _ _ (wr.alloc (.cells (ints .i64 (List.replicate 16 0)).toArray 124))
  generalize wr.alloc (.cells (ints .i64 (List.replicate 16 0)).toArray 124)=w2 at*
  clear hO
  obtain⟨wo,rfl⟩:=nxq wr
  go_loopw [9] (fun j wr=>∃(k:Nat) (o:List Int),k≤16∧j=.int .i64 k∧OutS p o k∧Blk wr (A+1+1) (ints .i64 (List.replicate 16 0)) 124∧Blk wr (A+1+1+1) (ints .i64 p) 211∧Blk wr O (ints .i64 o) 124∧Below w.heap.size w wr) (fun j _=>16 - (intOf j).toNat)
  case atStart=>exact⟨0,_,by omega,rfl,⟨rfl,fun j hj=>by omega⟩,g.o,m.o,a0.o,f.o⟩
  case round=>
   clear g m f a0
   obtain⟨k,o,hk,rfl,G,n,d,H,h⟩:=hrel
   have am:(0:Int)≤(k:Int):=Int.natCast_nonneg _
   have N:=G.len
   by_cases ag:k<16
   ·have j1:(k:Int)<16:=by omega
    have e1:=d.cell k
    rw[zas (by have:=a5.o;omega)]at e1
    have e2:=H.cell k
    rw[zas (by omega)]at e2
    have f2:=H.free k
    have L:=a1.o k (by omega)
    by_cases az:k<15
    ·have e3:=d.cell (k+16)
     rw[zas (by have:=a5.o;omega)]at e3
     have Q:=a1.o (k+16) (by omega)
     have I:=G.step1 az
     generalize p.getD k 0=a at*
     generalize p.getD (k+16) 0=b at*
     obtain⟨b0,ar⟩:=L
     obtain⟨ao,ax⟩:=Q
     have s1:IntKind.i64.wrap ((k:Int)+16)=(k:Int)+16:=IntWalk.i64_in _ (by omega)
     have s2:((k:Int)+16).toNat=k+16:=by omega
     have s3:(0:Int)≤(k:Int)+16:=by omega
     have s4:(k:Int)+16<31:=by omega
     have j2:(k:Int)<15:=by omega
     have W1:Hid (wrap64 (38*b)=38*b):=jh (by rw[←IntWalk.i64_left];exact IntWalk.i64_in _ (by omega))
     have W:Hid (wrap64 (a+38*b)=a+38*b):=jh (by rw[←IntWalk.i64_left];exact IntWalk.i64_in _ (by omega))
     obtain⟨S,g,m,f,R⟩:=jq5 I n d h H
     clear n d H h I G b0 ar ao ax N
     go_wp2_with fail
     go_region
     go_wp2_with fail
     go_roundw
     case rel=>
      rw[W1.o,W.o]
      refine⟨k+1,_,by omega,by go_num,S.o,(g.o.far (by simp;omega) _).far (by simp;omega) _,(m.o.far (by simp;omega) _).far (by simp;omega) _,?_,((f.o.setCell (by simp;omega) _).setCell (by simp;omega) _).drew⟩
      rw[←zbw,←zbw]
      exact(R.o.set k _).set k _
     case measure=>simp[intOf];omega
    have an:k=15:=by omega
    subst an
    have I:=G.step2
    generalize p.getD 15 0=a at*
    obtain⟨S,g,m,f,R⟩:=jq5 I n d h H
    clear n d H h I G L N
    go_wp2_with fail
    go_roundw
    case rel=>
     refine⟨16,_,by omega,by go_num,S.o,g.o.far (by simp;omega) _,m.o.far (by simp;omega) _,?_,f.o.setCell (by simp;omega) _⟩
     rw[←zbw]
     exact R.o.set 15 _
    case measure=>simp[intOf]
   have a3:k=16:=by omega
   subst a3
   have a9:=G.done a5.o
   have a8:=G.bnd a1.o
   obtain⟨g,f,R,HD⟩:=jq4 n h H a9
   have b9:Hid ((Tryz.prog.info? 124).map (·.size)=some (ints .i64 o).length):=jh (by rw[zaa,N];exact Tryz.arr124)
   have HC:=jh (carry_any o 281474976710656 wr N a8 (by omega) (by omega))
   clear n d H h G N a9 a8
   go_wp2_with (refine zbd rfl _ _ rfl O rfl _ _ _ _ R.o q103 b9.o ?_)
   refine HC.o.mono ?_
   rintro e w5 ⟨z1,rfl,J,a4⟩
   have ad:=J.near (by omega)
   have a7:∀z∈z1,-1099511627776≤z∧z≤1099511627776:=zej (P:=fun z=> -1099511627776≤z∧z≤1099511627776) J.len (fun i hi=>by
    obtain⟨_,⟨c,c1,c2,_,c4,c5⟩,U⟩:=J
    rcases q151 i with rfl|h0
    ·omega
    have:=U i h0 hi
    omega)
   have b7:=jh (carry_any z1 1099511627776 w5 J.len a7 (by omega) (by omega))
   have aa:=jh (g.o.same (a4.block _ g.o.lt))
   obtain⟨ae,b8,ab⟩:=jq3 (f.o.trans (a4.mono f.o.size)) J ad
   clear a4 J ad a7
   go_wp2_with fail
   refine b7.o.mono ?_
   rintro e w6 ⟨z2,rfl,X,a2⟩
   have ap:=jh (aa.o.same (a2.block _ aa.o.lt))
   have af:=jh (ae.o.trans (a2.mono ae.o.size))
   have ah:Hid ((Tryz.prog.info? 124).map (·.size)=some (ints .i64 z2).length):=jh (by rw[zaa,X.len];exact Tryz.arr124)
   have bd:Hid ((ints .i64 z2).length=(ints .i64 (List.replicate 16 0)).length):=jh (by rw[zaa,zaa,X.len];rfl)
   have ac:=jh X
   clear a2 X
   go_wp2_with (refine zal rfl _ _ _ rfl (A+1+1) _ rfl rfl _ _ ap.o bd.o ah.o (zah _ _) ?_;intro w7 b6 be)
   obtain⟨_,⟨c1,_,_,v1,_,_⟩,_⟩:=b8.o
   obtain⟨aq,⟨c2,_,_,v2,_,_⟩,_⟩:=id ac.o
   refine bodyPost_ret (v:=.agg (ints .i64 z2).toArray) (zam (by rfl) _ (A+1+1) _ _ _ _ (by rfl) b6 q103 ah.o) rfl ⟨_,rfl,⟨z2,rfl,aq,fun z hz=>?_,qa*y+qb*x+qa*qb*pP - 2*dV (p.drop 16) - 2*c1 - 2*c2,?_⟩,af.o.grown be af.o.size (fun r hr=>by cases hr;omega)⟩
   ·have:=ac.o.sharp (E:=1152921504606846976) (by omega) (by omega) (by have:=ab.o.1;omega) (by have:=ab.o.2;omega) z hz
    omega
   rw[v2,v1,HD.o,au.o,VA.o,VB.o,bigM_p]
   grind
theorem bigM_lit:bigM=115792089237316195423570985008687907853269984665640564039457584007913129639936:=by decide+kernel
theorem dV_range {zs:List Int}(a:zs.length=16)(h:∀i,i<16→0≤zs.getD i 0∧zs.getD i 0≤65535):0≤dV zs∧dV zs<bigM:=by
 have e:=h 0 (by omega)
 have q:=h 1 (by omega)
 have g:=h 2 (by omega)
 have n:=h 3 (by omega)
 have b:=h 4 (by omega)
 have d:=h 5 (by omega)
 have l:=h 6 (by omega)
 have p:=h 7 (by omega)
 have j:=h 8 (by omega)
 have m:=h 9 (by omega)
 have c:=h 10 (by omega)
 have k:=h 11 (by omega)
 have r:=h 12 (by omega)
 have f:=h 13 (by omega)
 have t:=h 14 (by omega)
 have s:=h 15 (by omega)
 rw[list16 zs a,bigM_lit]
 simp only[dV]
 omega
theorem CZ.inner {zs a:List Int} {B:Int}(h:CZ zs a B):∃c,-(B / 32768+2)≤c∧c≤B / 32768+2∧dV a=dV zs - (bigM - 38)*c∧0≤dV a - 38*c∧dV a - 38*c<bigM∧0≤a.getD 0 0 - 38*c∧a.getD 0 0 - 38*c≤65535:=by
 obtain⟨j,⟨c,c1,c2,c3,d,e⟩,f⟩:=h
 have b:=dV_range (zs:=a.set 0 (a.getD 0 0 - 38*c)) (by simp[j]) (fun i g=>by
  rcases q151 i with rfl|h0
  ·rw[zai (by omega)]
   exact⟨d,e⟩
  rw[zae (by omega)]
  exact f i h0 g)
 rw[dV_set _ _ _ (by omega)]at b
 simp only[Int.pow_zero,Int.mul_one]at b
 exact⟨c,c1,c2,c3,by omega,by omega,d,e⟩
theorem CZ.second {zs a:List Int} {B E:Int}(h:CZ zs a B)(e:E≤1152921504606846976)(h1: -E≤dV zs)(h2:dV zs≤bigM+E):0≤dV a∧dV a<bigM:=by
 obtain⟨c,c1,c2,c3,b,d,_,_⟩:=h.inner
 rw[c3]at b d⊢
 rw[bigM_lit]at*
 omega
theorem CZ.tidy {zs a:List Int} {B:Int}(h:CZ zs a B)(h1:0≤dV zs)(h2:dV zs<bigM):dV a=dV zs∧∀i,i<16→0≤a.getD i 0∧a.getD i 0≤65535:=by
 obtain⟨c,c1,c2,c3,b,e,j,g⟩:=h.inner
 have f:c=0:=by
  rw[c3]at b e
  rw[bigM_lit]at*
  omega
 subst f
 refine⟨by rw[c3];omega,fun i d=>?_⟩
 rcases q151 i with rfl|h0
 ·omega
 exact h.low i h0 d
def pL:List Int:=[65517,65535,65535,65535,65535,65535,65535,65535,65535,65535,65535,65535,65535,65535,65535,32767]
theorem dV_pL:dV pL=pP:=by decide+kernel
theorem dV_take_set {zs:List Int} {i k:Nat} {z:Int}(a:i<k)(b:k≤zs.length):dV ((zs.set i z).take k)=dV (zs.take k)+(z - zs.getD i 0)*65536^i:=by
 rw[List.take_set,dV_set _ _ _ (by simp;omega)]
 congr 3
 simp[List.getD,a]
theorem dV_take_far {zs:List Int} {i k:Nat} {z:Int}(a:k≤i):dV ((zs.set i z).take k)=dV (zs.take k):=by
 rw[List.take_set]
 rw[List.set_eq_of_length_le (by simp;omega)]
theorem and1 {t:Int}(h:t=-1∨t=0):bits .and .i64 t 1=-t:=by
 rcases h with rfl|rfl<;>decide
theorem and16(n:Int):bits .and .i64 n 65535=n%65536:=by
 have h:(BitVec.ofInt 64 65535).toNat=2^16 - 1:=by decide
 have key:(BitVec.ofInt 64 n &&& BitVec.ofInt 64 65535).toNat=(n%((2^64:Nat):Int)).toNat%2^16:=by
  rw[BitVec.toNat_and,BitVec.toNat_ofInt,h,q142]
 show IntKind.i64.wrap ((BitVec.ofInt 64 n &&& BitVec.ofInt 64 65535).toNat:Nat)=n%65536
 rw[key,IntKind.wrap_i64]
 omega
theorem and8(n:Int):bits .and .i64 n 255=n%256:=by
 have a:(BitVec.ofInt 64 255).toNat=2^8 - 1:=by decide
 have key:(BitVec.ofInt 64 n &&& BitVec.ofInt 64 255).toNat=(n%((2^64:Nat):Int)).toNat%2^8:=by
  rw[BitVec.toNat_and,BitVec.toNat_ofInt,a,q142]
 show IntKind.i64.wrap ((BitVec.ofInt 64 n &&& BitVec.ofInt 64 255).toNat:Nat)=n%256
 rw[key,IntKind.wrap_i64]
 omega
structure SubP(a m:List Int)(i:Nat):Prop where
 len:m.length=16
 val:dV (m.take (i+1))=dV (a.take (i+1)) - dV (pL.take (i+1))
 low:∀j,j<i→0≤m.getD j 0∧m.getD j 0≤65535
 top: -65536≤m.getD i 0∧m.getD i 0≤65535
theorem SubP.start {a m:List Int}(b:m.length=16)(c:a.length=16)(h0:0≤a.getD 0 0∧a.getD 0 0≤65535):SubP a (m.set 0 (a.getD 0 0 - 65517)) 0:=by
 refine⟨by simp[b],?_,fun j d=>by omega,?_⟩
 ·rw[dV_take_set (by omega) (by omega),zcq m 0 (by omega),zcq a 0 (by omega)]
  simp only[List.take_zero,pL,q173,dV]
  omega
 rw[zai (by omega)]
 omega
theorem SubP.step {a m:List Int} {i:Nat} {P:Int}(h:SubP a m i)(l:i<15)(p:a.length=16)(h1:0≤a.getD (i+1) 0∧a.getD (i+1) 0≤65535)(c:pL.getD (i+1) 0=P)(n:0≤P)(f:P≤65535):
  SubP a ((m.set (i+1) (a.getD (i+1) 0 - P - bits .and .i64 (m.getD i 0 / 65536) 1)).set i (bits .and .i64 (m.getD i 0) 65535)) (i+1):=by
 obtain⟨d,h2,b,q⟩:=h
 have k:pL.length=16:=rfl
 rw[and16,and1 (by omega)]
 refine⟨by simp[d],?_,fun j g=>?_,?_⟩
 ·rw[dV_take_set (by omega) (by simp;omega),zae (by omega),zcq _ (i+1) (by simp;omega),dV_take_far (by omega),zai (by omega),h2,zcq a (i+1) (by omega),zcq pL (i+1) (by omega),c,q124]
  have e:m.getD i 0%65536=m.getD i 0 - m.getD i 0 / 65536*65536:=by omega
  rw[e]
  generalize (65536:Int)^i=X
  grind
 ·by_cases e:j=i
  ·subst e
   rw[zai (by simp;omega)]
   omega
  rw[zae (by omega),zae (by omega)]
  exact b j (by omega)
 rw[zae (by omega),zai (by omega)]
 omega
theorem SubP.done {a m:List Int}(h:SubP a m 15)(k:a.length=16):dV m=dV a - pP∧(0≤m.getD 15 0↔pP≤dV a)∧(0≤m.getD 15 0→∀i,i<16→0≤m.getD i 0∧m.getD i 0≤65535):=by
 obtain⟨f,h2,b,D⟩:=h
 rw[q108 (by omega),q108 (by omega),q108 (by simp[pL]),dV_pL]at h2
 refine⟨h2,?_,fun h i v=>?_⟩
 ·have e:=list16 m f
  have t:=b 0 (by omega)
  have l:=b 1 (by omega)
  have B:=b 2 (by omega)
  have j:=b 3 (by omega)
  have A:=b 4 (by omega)
  have s:=b 5 (by omega)
  have y:=b 6 (by omega)
  have C:=b 7 (by omega)
  have r:=b 8 (by omega)
  have g:=b 9 (by omega)
  have q:=b 10 (by omega)
  have x:=b 11 (by omega)
  have n:=b 12 (by omega)
  have u:=b 13 (by omega)
  have z:=b 14 (by omega)
  have d:dV m=dV a - pP:=h2
  rw[e]at d
  simp only[dV]at d
  generalize dV a=V at*
  generalize pP=p at*
  constructor<;>intro h<;>omega
 rcases q114 i 15 with c|c
 ·exact b i c
 obtain rfl:i=15:=by omega
 omega
def bndK(k:Nat):Int:=if k=0 then bigM else if k=1 then pP+38 else pP
structure OutR(x:Int)(zs:List Int)(k:Nat):Prop where
 len:zs.length=16
 dig:∀i,i<16→0≤zs.getD i 0∧zs.getD i 0≤65535
 val:∃q,dV zs=x+pP*q
 bnd:0≤dV zs∧dV zs<bndK k
theorem OutR.keep {x:Int} {zs:List Int} {k:Nat}(h:OutR x zs k)(e:k<3)(c:¬pP≤dV zs):OutR x zs (k+1):=by
 obtain⟨h1,h2,a,b,d⟩:=h
 refine⟨h1,h2,a,b,?_⟩
 have f:(0:Int)<pP:=by decide+kernel
 unfold bndK
 rw[if_neg (by omega)]
 split<;>omega
theorem OutR.less {x:Int} {zs a:List Int} {k:Nat}(h:OutR x zs k)(l:k<3)(d:a.length=16)(e:∀i,i<16→0≤a.getD i 0∧a.getD i 0≤65535)(c:dV a=dV zs - pP)(f:pP≤dV zs):OutR x a (k+1):=by
 obtain⟨h1,h2,⟨q,b⟩,r,g⟩:=h
 refine⟨d,e,⟨q - 1,by rw[c,b];grind⟩,by omega,?_⟩
 have j:=bigM_p
 have n:(0:Int)<pP:=by decide+kernel
 unfold bndK at*
 rw[if_neg (by omega)]
 have m:(38:Int)<pP:=by decide+kernel
 generalize pP=p at*
 generalize bigM=M at*
 rcases(by omega:k=0∨k=1∨k=2)with rfl|rfl|rfl
 ·simp at*
  omega
 ·simp at*
  omega
 simp at*
 omega
theorem OutR.start {x i:Int} {e z1 z2 c d:List Int}(n:dV e=x+pP*i)(h1:CZ e z1 131072)(h2:CZ z1 z2 131072)(l:CZ z2 c 131072)(h:CZ c d 131072):OutR x d 0:=by
 obtain⟨_,k,q⟩:=h1.el (by omega)
 obtain⟨_,p,m⟩:=h2.el (by omega)
 have g:=h1.near (by omega)
 have a:=h2.second (E:=1152921504606846976) (by omega) (by have:=g.1;omega) (by have:=g.2;omega)
 obtain⟨b,_⟩:=l.tidy a.1 a.2
 obtain⟨f,j⟩:=h.tidy (by rw[b];exact a.1) (by rw[b];exact a.2)
 refine⟨h.len,j,⟨i+k+p,?_⟩,?_⟩
 ·rw[f,b,m,q,n]
  grind
 rw[f,b]
 exact a
structure OutB(zs bs:List Int)(k:Nat):Prop where
 len:bs.length=32
 low:∀j,j<k→bs.getD (2*j) 0=zs.getD j 0%256∧bs.getD (2*j+1) 0=zs.getD j 0 / 256%256
theorem OutB.step {zs a:List Int} {k:Nat}(h:OutB zs a k)(b:k<16):OutB zs ((a.set (2*k) (bits .and .i64 (zs.getD k 0) 255%256)).set (2*k+1) (bits .and .i64 (zs.getD k 0 / 256) 255%256)) (k+1):=by
 obtain⟨h1,h2⟩:=h
 refine⟨by simp[h1],fun j c=>?_⟩
 rw[and8,and8,Int.emod_emod,Int.emod_emod]
 by_cases e:j=k
 ·subst e
  rw[zae (by omega),zai (by omega),zai (by simp;omega)]
  exact⟨rfl,rfl⟩
 rw[zae (by omega),zae (by omega),zae (by omega),zae (by omega)]
 exact h2 j (by omega)
theorem OutB.done {x:Int} {zs a:List Int}(h:OutB zs a 16)(d:OutR x zs 3):ints .u8 a=(bytesN 32 (x%pP).toNat).map bval:=by
 obtain⟨h1,h2⟩:=h
 have b:∀i,i<32→0≤a.getD i 0∧a.getD i 0≤255:=fun i c=>by
  have:=h2 (i / 2) (by omega)
  rcases(by omega:i=2*(i / 2)∨i=2*(i / 2)+1)with e|e
  ·rw[e,this.1]
   omega
  rw[e,this.2]
  omega
 have f:∀i,i<32→((a.map fun z=>UInt8.ofNat z.toNat).getD i 0).toNat=(a.getD i 0).toNat:=fun i c=>by
  have:=b i c
  have e:(a.map fun z=>UInt8.ofNat z.toNat).getD i 0=UInt8.ofNat (a.getD i 0).toNat:=by simp[List.getD,show i<a.length from by omega]
  rw[e,UInt8.toNat_ofNat']
  omega
 have g:dV zs=leN (a.map fun z=>UInt8.ofNat z.toNat):=dV_pairs zs _ d.len (by simp[h1]) (fun i c=>by
  unfold pairAt
  rw[f _ (by omega),f _ (by omega),(h2 i c).1,(h2 i c).2]
  have:=d.dig i c
  omega)
 have k:x%pP=dV zs:=by
  obtain⟨q,l⟩:=d.val
  have b:=d.bnd
  have:bndK 3=pP:=rfl
  rw[this]at b
  have e:x=dV zs+pP*(-q):=by rw[l];grind
  rw[e,Int.add_mul_emod_self_left]
  exact q159 b.1 b.2
 rw[k,g,Int.toNat_natCast]
 have:=bytesN_leN (a.map fun z=>UInt8.ofNat z.toNat)
 rw[q100,h1]at this
 rw[this,List.map_map]
 unfold ints
 refine List.map_congr_left (fun z j=>?_)
 have m:=(zej (P:=fun z=>0≤z∧z≤255) h1 b) z j
 simp only[Function.comp,bval]
 congr 1
 rw[UInt8.toNat_ofNat']
 omega
theorem rout_any(v:Value)(x:Int)(w:World)(hv:IsEl v x):
  Calls Tryz.prog 123 #[v] w fun e w'=>e=.returned (.agg ((bytesN 32 (x%pP).toNat).map bval).toArray)∧Below w.heap.size w w':=by
 obtain⟨B,rfl,Y,ba,qa,va⟩:=hv
 obtain⟨LA,VA,aa⟩:=jq3 Y va (boxes2 w (ints .i64 B) (ints .u8 (List.replicate 32 0)) 124 23)
 have aq:Hid ((Tryz.prog.info? 124).map (·.size)=some (ints .i64 B).length):=jh (by rw[zaa,Y];exact Tryz.arr124)
 have HC:=jh (carry_any B 131072 ((w.alloc (.cells (ints .i64 B).toArray 124)).alloc (.cells (ints .u8 (List.replicate 32 0)).toArray 23)) Y ba (by omega) (by omega))
 have BA:=jh ba
 clear Y ba va
 go_enter Tryz.func123,Tryz.ntmps123
 go_wp2_with (refine zbd rfl _ _ rfl w.heap.size rfl _ _ _ _ aa.o.1 q103 aq.o ?_)
 change Calls _ _ _ ((w.alloc (.cells (ints .i64 B).toArray 124)).alloc (.cells (ints .u8 (List.replicate 32 0)).toArray 23)) _
 generalize (w.alloc (.cells (ints .i64 B).toArray 124)).alloc (.cells (ints .u8 (List.replicate 32 0)).toArray 23)=w0 at*
 obtain⟨h1,h2,h3⟩:=aa.o
 obtain⟨A,hA⟩:=nxq w.heap.size
 rw[←hA]at h1 h2⊢
 have bo:w.heap.size≤A:=by omega
 obtain⟨l,f,d⟩:=jq3 h1 h2 h3
 clear h1 h2 h3 aa hA
 refine HC.o.mono ?_
 rintro e w1 ⟨z1,rfl,Q,b⟩
 have al:=jh (carry_any z1 131072 w1 Q.len (Q.el (by omega)).1 (by omega) (by omega))
 obtain⟨az,a8⟩:=jq2 Q b
 clear Q b
 go_wp2_with fail
 refine al.o.mono ?_
 rintro e w2 ⟨z2,rfl,S,c⟩
 have aw:=jh (carry_any z2 131072 w2 S.len (S.el (by omega)).1 (by omega) (by omega))
 obtain⟨ap,a2⟩:=jq2 S (a8.o.trans (c.mono a8.o.size))
 clear S c
 go_wp2_with fail
 refine aw.o.mono ?_
 rintro e w3 ⟨z3,rfl,T,b4⟩
 have an:=jh (carry_any z3 131072 w3 T.len (T.el (by omega)).1 (by omega) (by omega))
 obtain⟨av,W⟩:=jq2 T (a2.o.trans (b4.mono a2.o.size))
 clear T b4
 go_wp2_with fail
 refine an.o.mono ?_
 rintro e w4 ⟨z4,rfl,V,ak⟩
 have R:=W.o.trans (ak.mono W.o.size)
 have ai:=OutR.start VA.o az.o ap.o av.o V
 have ay:=jh (l.o.same (R.block _ l.o.lt))
 have af:=jh (f.o.same (R.block _ f.o.lt))
 have a1:=jh (d.o.trans (R.mono d.o.size))
 have ao:Hid ((Tryz.prog.info? 124).map (·.size)=some (ints .i64 z4).length):=jh (by rw[zaa,V.len];exact Tryz.arr124)
 have ax:Hid ((ints .i64 z4).length=(ints .i64 B).length):=jh (by rw[zaa,zaa,V.len,LA.o])
 have s:=jh ai
 clear V ak R ai
 go_wp2_with (refine zal rfl _ _ _ rfl A _ rfl rfl _ _ ay.o ax.o ao.o (zah _ _) ?_;intro w5 b2 ad)
 have ar:=jh b2
 have am:=jh (af.o.grown ad (by simp))
 have ah:=jh (a1.o.grown ad a1.o.size (fun r K=>by cases K;omega))
 clear b2 ad
 go_loopw [3] (fun i wr=>∃(k:Nat) (zs:List Int),k≤3∧i=.int .i64 k∧OutR x zs k∧Blk wr A (ints .i64 zs) 124∧Blk wr (A+1) (ints .u8 (List.replicate 32 0)) 23∧Below w.heap.size w wr) (fun i _=>3 - (intOf i).toNat)
 case atStart=>exact⟨0,z4,by omega,rfl,s.o,ar.o,am.o,ah.o⟩
 case round=>
  clear l f d HC a8 a2 W az ap av ay af a1 ar am ah al aw an ao ax s aq VA LA BA
  obtain⟨k,zs,hk,rfl,z,b,c,g⟩:=hrel
  have bl:(0:Int)≤(k:Int):=Int.natCast_nonneg _
  by_cases b6:k<3
  ·have i1:(k:Int)<3:=by omega
   obtain⟨M,hM⟩:=nxq wr.heap.size
   have bm:A+1<M:=by have:=c.lt;omega
   have D:=Blk.made wr (ints .i64 ((List.replicate 16 0).set 0 (zs.getD 0 0 - 65517))) 124
   rw[←hM]at D
   have e0:(wr.alloc (.cells #[.int .i64 0,.int .i64 0,.int .i64 0,.int .i64 0,.int .i64 0,.int .i64 0,.int .i64 0,.int .i64 0,.int .i64 0,.int .i64 0,.int .i64 0,.int .i64 0,.int .i64 0,.int .i64 0,.int .i64 0,.int .i64 0] 124)).cell? ⟨A,0,none⟩=some (.int .i64 (zs.getD 0 0)):=by
    have:=(b.alloc (.cells (ints .i64 (List.replicate 16 0)).toArray 124)).cell 0
    rw[zas (by have:=z.len;omega)]at this
    exact this
   have d0:=z.dig 0 (by omega)
   have q:=SubP.start (m:=List.replicate 16 0) rfl z.len d0
   obtain⟨l,f,d,n,G,s⟩:=jq6 (b.alloc (.cells (ints .i64 ((List.replicate 16 0).set 0 (zs.getD 0 0 - 65517))).toArray 124)) (c.alloc (.cells (ints .i64 ((List.replicate 16 0).set 0 (zs.getD 0 0 - 65517))).toArray 124)) (g.alloc g.size (.cells (ints .i64 ((List.replicate 16 0).set 0 (zs.getD 0 0 - 65517))).toArray 124)) D q z
   generalize zs.getD 0 0=a0 at*
   clear b c g D q z
   go_wp2_with fail
   rw[←hM]
   change Code.wp _ _ _ _ (wr.alloc (.cells (ints .i64 ((List.replicate 16 0).set 0 (a0 - 65517))).toArray 124))
   generalize wr.alloc (.cells (ints .i64 ((List.replicate 16 0).set 0 (a0 - 65517))).toArray 124)=w6 at*
   clear hM e0 d0
   obtain⟨wo,rfl⟩:=nxq wr
   go_loopw [5] (fun i wr=>∃(j:Nat) (u:List Int),j≤14∧i=.int .i64 ((j+1:Nat):Int)∧SubP zs u j∧Blk wr A (ints .i64 zs) 124∧Blk wr (A+1) (ints .u8 (List.replicate 32 0)) 23∧Blk wr M (ints .i64 u) 124∧Below w.heap.size w wr) (fun i _=>16 - (intOf i).toNat)
   case atStart=>exact⟨0,_,by omega,rfl,G.o,l.o,f.o,n.o,d.o⟩
   case round=>
    clear l f d n G
    obtain⟨j,u,hj,rfl,C,b,c,p,g⟩:=hrel
    have t:=s.o.len
    have b7:=C.len
    have b8:(0:Int)≤(j:Int):=Int.natCast_nonneg _
    by_cases a9:j<14
    ·have O:=b.cell (j+1)
     rw[zas (by omega)]at O
     have L:=p.cell j
     rw[zas (by omega)]at L
     have J:=p.cell (j+1)
     rw[zas (by omega)]at J
     have f2:=p.free j
     have f3:=p.free (j+1)
     have I:=s.o.dig (j+1) (by omega)
     have ae:pL.getD (j+1) 0=65535:=by
      have:∀j,j<14→pL.getD (j+1) 0=65535:=by decide+kernel
      exact this j a9
     have q:=C.step (by omega) t I ae (by omega) (by omega)
     have ht:=C.top
     generalize zs.getD (j+1) 0=a at*
     generalize u.getD j 0=m at*
     obtain⟨bg,bi⟩:=I
     obtain⟨be,bf⟩:=ht
     have s1:IntKind.i64.wrap ((j:Int)+1 - 1)=(j:Int):=IntWalk.i64_in _ (by omega)|>.trans (by omega)
     have s2:((j:Int)+1 - 1)=(j:Int):=by omega
     have s3:((j:Int)+1).toNat=j+1:=by omega
     have s4:(0:Int)≤(j:Int)+1:=by omega
     have s5:(j:Int)+1<16:=by omega
     have s6:(j:Int)<16:=by omega
     have E:bits .and .i64 (m / 65536) 1=-(m / 65536):=and1 (by omega)
     have W1:Hid (wrap64 (a - 65535 - bits .and .i64 (m / 65536) 1)=a - 65535 - bits .and .i64 (m / 65536) 1):=jh (by rw[←IntWalk.i64_left];exact IntWalk.i64_in _ (by rw[E];omega))
     obtain⟨G,l,f,d,n⟩:=jq5 q b c g p
     clear b c g p q C ae t b7 E
     go_wp2_with fail
     go_region
     go_wp2_with fail
     go_roundw
     case rel=>
      rw[W1.o]
      refine⟨j+1,_,by omega,by go_num,G.o,(l.o.far (by simp;omega) _).far (by simp;omega) _,(f.o.far (by simp;omega) _).far (by simp;omega) _,?_,((d.o.setCell (by simp;omega) _).setCell (by simp;omega) _).drew⟩
      rw[←zbw,←zbw]
      exact(n.o.set (j+1) _).set j _
     case measure=>simp[intOf];omega
    have a4:j=14:=by omega
    subst a4
    have O:=b.cell 15
    rw[zas (by omega)]at O
    have L:=p.cell 14
    rw[zas (by omega)]at L
    have J:=p.cell 15
    rw[zas (by omega)]at J
    have f2:=p.free 14
    have f3:=p.free 15
    have I:=s.o.dig 15 (by omega)
    have q:=C.step (by omega) t I (P:=32767) rfl (by omega) (by omega)
    have ht:=C.top
    generalize zs.getD 15 0=a at*
    generalize u.getD 14 0=m at*
    obtain⟨bg,bi⟩:=I
    obtain⟨be,bf⟩:=ht
    have E:bits .and .i64 (m / 65536) 1=-(m / 65536):=and1 (by omega)
    have b0:0≤bits .and .i64 (m / 65536) 1:=by rw[E];omega
    have b1:bits .and .i64 (m / 65536) 1≤1:=by rw[E];omega
    have Z:=q.done t
    have a6:=q.len
    have au:((u.set 15 (a - 32767 - bits .and .i64 (m / 65536) 1)).set 14 (bits .and .i64 m 65535)).getD 15 0=a - 32767 - bits .and .i64 (m / 65536) 1:=by
     rw[zae (by omega),zai (by omega)]
    simp only[Nat.reduceAdd]at Z a6
    rw[au]at Z
    obtain⟨v1,v2,v3⟩:=Z
    obtain⟨l,f,d,n,V1,V2⟩:=jq6 b c g p v1 v2
    obtain⟨V3,ac,bb⟩:=jq3 v3 a6 t
    clear b c g p q C t b7 E au v1 v2 v3 a6
    have bc:Hid (Blk ((wr.setCell ⟨M,15,none⟩ (.int .i64 (a - 32767 - bits .and .i64 (m / 65536) 1))).setCell ⟨M,14,none⟩ (.int .i64 (bits .and .i64 m 65535))) M (ints .i64 ((u.set 15 (a - 32767 - bits .and .i64 (m / 65536) 1)).set 14 (bits .and .i64 m 65535))) 124):=jh (by
     rw[←zbw,←zbw]
     exact(n.o.set 15 _).set 14 _)
    have b3:=jh ((l.o.far (a:=⟨M,15,none⟩) (by simp;omega) (.int .i64 (a - 32767 - bits .and .i64 (m / 65536) 1))).far (a:=⟨M,14,none⟩) (by simp;omega) (.int .i64 (bits .and .i64 m 65535)))
    have b5:=jh ((f.o.far (a:=⟨M,15,none⟩) (by simp;omega) (.int .i64 (a - 32767 - bits .and .i64 (m / 65536) 1))).far (a:=⟨M,14,none⟩) (by simp;omega) (.int .i64 (bits .and .i64 m 65535)))
    have a5:Hid (Below w.heap.size w ((wr.setCell ⟨M,15,none⟩ (.int .i64 (a - 32767 - bits .and .i64 (m / 65536) 1))).setCell ⟨M,14,none⟩ (.int .i64 (bits .and .i64 m 65535)))):=jh ((d.o.setCell (by simp;omega) _).setCell (by simp;omega) _)
    have aj:Hid ((Tryz.prog.info? 124).map (·.size)=some (ints .i64 ((u.set 15 (a - 32767 - bits .and .i64 (m / 65536) 1)).set 14 (bits .and .i64 m 65535))).length):=jh (by rw[zaa,ac.o];exact Tryz.arr124)
    have bd:Hid ((ints .i64 ((u.set 15 (a - 32767 - bits .and .i64 (m / 65536) 1)).set 14 (bits .and .i64 m 65535))).length=(ints .i64 zs).length):=jh (by rw[zaa,zaa,ac.o,bb.o])
    by_cases a3:0≤a - 32767 - bits .and .i64 (m / 65536) 1
    ·have bn:bits .and .i64 (m / 65536) 1≤a - 32767:=by omega
     go_wp2_with (first|(refine zbd rfl _ _ rfl M rfl _ _ _ _ bc.o q103 aj.o ?_)|(refine zal rfl _ _ _ rfl A _ rfl rfl _ _ b3.o bd.o aj.o (zah _ _) ?_;intro w7 a7 X))
     go_roundw
     case rel=>exact⟨k+1,_,by omega,by go_num,s.o.less b6 ac.o (V3.o a3) V1.o (V2.o.1 a3),a7,b5.o.grown X (by simp),a5.o.grown X a5.o.size (fun r K=>by cases K;omega)⟩
     case measure=>simp[intOf];omega
    have bj:a - 32767 - bits .and .i64 (m / 65536) 1<0:=by omega
    go_wp2_with fail
    go_roundw
    case rel=>exact⟨k+1,zs,by omega,by go_num,s.o.keep b6 (fun h=>a3 (V2.o.2 h)),b3.o,b5.o,a5.o⟩
    case measure=>simp[intOf];omega
  have bh:k=3:=by omega
  subst bh
  obtain⟨N,hN⟩:=nxq wr.heap.size
  have bk:A+1<N:=by have:=c.lt;omega
  have D:=Blk.made wr (ints .u8 (List.replicate 32 0)) 23
  rw[←hN]at D
  obtain⟨l,f,d,n,s⟩:=jq5 (b.alloc (.cells (ints .u8 (List.replicate 32 0)).toArray 23)) (c.alloc (.cells (ints .u8 (List.replicate 32 0)).toArray 23)) (g.alloc g.size (.cells (ints .u8 (List.replicate 32 0)).toArray 23)) D z
  clear b c g D z
  go_wp2_with fail
  rw[←hN]
  change Code.wp _ _ _ _ (wr.alloc (.cells (ints .u8 (List.replicate 32 0)).toArray 23))
  generalize wr.alloc (.cells (ints .u8 (List.replicate 32 0)).toArray 23)=w6 at*
  clear hN
  obtain⟨wo,rfl⟩:=nxq wr
  go_loopw [7] (fun i wr=>∃(j:Nat) (F:List Int),j≤16∧i=.int .i64 j∧OutB zs F j∧Blk wr A (ints .i64 zs) 124∧Blk wr (A+1) (ints .u8 (List.replicate 32 0)) 23∧Blk wr N (ints .u8 F) 23∧Below w.heap.size w wr) (fun i _=>16 - (intOf i).toNat)
  case atStart=>exact⟨0,_,by omega,rfl,⟨rfl,fun j hj=>by omega⟩,l.o,f.o,n.o,d.o⟩
  case round=>
   clear l f d n
   obtain⟨j,F,hj,rfl,H,b,c,y,g⟩:=hrel
   have t:=s.o.len
   have U:=H.len
   have b8:(0:Int)≤(j:Int):=Int.natCast_nonneg _
   by_cases a9:j<16
   ·have O:=b.cell j
    rw[zas (by omega)]at O
    have L:=y.cell (2*j)
    rw[zas (by omega)]at L
    have J:=y.cell (2*j+1)
    rw[zas (by omega)]at J
    have f2:=y.free (2*j)
    have f3:=y.free (2*j+1)
    have j1:(j:Int)<16:=by omega
    have s3:(2*(j:Int)).toNat=2*j:=by omega
    have s4:(2*(j:Int)+1).toNat=2*j+1:=by omega
    have s5:(0:Int)≤2*(j:Int):=by omega
    have s6:(0:Int)≤2*(j:Int)+1:=by omega
    have s7:2*(j:Int)<32:=by omega
    have s8:2*(j:Int)+1<32:=by omega
    have q:=H.step a9
    generalize zs.getD j 0=a at*
    obtain⟨G,l,f,d,n⟩:=jq5 q b c g y
    clear b c g y q H t U
    go_wp2_with fail
    go_roundw
    case rel=>
     refine⟨j+1,_,by omega,by go_num,G.o,(l.o.far (by simp;omega) _).far (by simp;omega) _,(f.o.far (by simp;omega) _).far (by simp;omega) _,?_,(d.o.setCell (by simp;omega) _).setCell (by simp;omega) _⟩
     rw[←zbw,←zbw]
     exact(n.o.set (2*j) _).set (2*j+1) _
    case measure=>simp[intOf];omega
   have a4:j=16:=by omega
   subst a4
   have ag:=H.done s.o
   have ab:Hid ((Tryz.prog.info? 23).map (·.size)=some (ints .u8 F).length):=jh (by rw[zaa,U];exact Tryz.arr23)
   have b9:Hid ((ints .u8 F).length=(ints .u8 (List.replicate 32 0)).length):=jh (by rw[zaa,zaa,U];rfl)
   obtain⟨f,d,n,HF⟩:=jq4 c g y ag
   clear b c g y H t U ag
   go_wp2_with (first|(refine zbd rfl _ _ rfl N rfl _ _ _ _ n.o q102 ab.o ?_)|(refine zal rfl _ _ _ rfl (A+1) _ rfl rfl _ _ f.o b9.o ab.o (zah _ _) ?_;intro w7 a7 X))
   exact bodyPost_ret (v:=.agg (ints .u8 F).toArray) (zam (by rfl) _ (A+1) _ _ _ _ (by rfl) a7 q102 ab.o) rfl ⟨by rw[HF.o],d.o.grown X d.o.size (fun r K=>by cases K;omega)⟩
theorem half_step {E k:Nat}(a:k<256):E / 2^(255 - k)=2*(E / 2^(256 - k))+E / 2^(255 - k)%2:=by
 have e:E / 2^(256 - k)=E / 2^(255 - k) / 2:=by
  rw[q172,←q132]
  congr 2
  omega
 rw[e]
 omega
theorem el_len {zs:List Int} {x:Int}(h:IsEl (.agg (ints .i64 zs).toArray) x):zs.length=16:=by
 obtain⟨a,e,h,_⟩:=h
 have:=congrArg (fun v:Value=>match v with|.agg c=>c.size|_=>0) e
 simp[ints]at this
 omega
theorem rpow_any(u:Value)(x:Int)(l:List UInt8)(w:World)(hu:IsEl u x)(hl:l.length=32):
  Calls Tryz.prog 162 #[u,.agg (l.map bval).toArray] w fun e w'=>∃r,e=.returned r∧IsEl r (x^leN l)∧Below w.heap.size w w':=by
 have HU:=jh hu
 obtain⟨C,rfl,la,ba,qa,va⟩:=hu
 obtain⟨HL,LA,af⟩:=jq3 hl la (boxes3 w (ints .i64 C) (l.map bval) (ints .i64 (List.replicate 16 0)) 124 23 124)
 have ae:=jh (rone_el 1 (((w.alloc (.cells (ints .i64 C).toArray 124)).alloc (.cells (l.map bval).toArray 23)).alloc (.cells (ints .i64 (List.replicate 16 0)).toArray 124)) (by omega) (by omega))
 clear la ba va hl
 go_enter Tryz.func162,Tryz.ntmps162
 go_wp2_with fail
 change Calls _ _ _ (((w.alloc (.cells (ints .i64 C).toArray 124)).alloc (.cells (l.map bval).toArray 23)).alloc (.cells (ints .i64 (List.replicate 16 0)).toArray 124)) _
 generalize ((w.alloc (.cells (ints .i64 C).toArray 124)).alloc (.cells (l.map bval).toArray 23)).alloc (.cells (ints .i64 (List.replicate 16 0)).toArray 124)=w0 at*
 obtain⟨h1,h2,h3,h4⟩:=af.o
 obtain⟨A,hA⟩:=nxq w.heap.size
 rw[←hA]at h1 h2 h3⊢
 have b9:w.heap.size≤A:=by omega
 obtain⟨y,g,d,H4⟩:=jq4 h1 h2 h3 h4
 clear h1 h2 h3 h4 af hA
 refine ae.o.mono ?_
 rintro e W ⟨r1,rfl,a2,a⟩
 obtain⟨z1,rfl,a8,ao,b4,az⟩:=id a2
 obtain⟨X,hX⟩:=nxq W.heap.size
 have al:=y.o.same (a.block _ y.o.lt)
 have ab:=g.o.same (a.block _ g.o.lt)
 have a6:=d.o.same (a.block _ d.o.lt)
 have b8:A+1+1<X:=by have:=a6.lt;omega
 have ak:=Blk.made W (ints .i64 (List.replicate 16 0)) 124
 have j:=H4.o.trans (a.mono H4.o.size)
 obtain⟨I,n,K,K4,K5⟩:=jq5 (al.alloc (.cells (ints .i64 (List.replicate 16 0)).toArray 124)) (ab.alloc (.cells (ints .i64 (List.replicate 16 0)).toArray 124)) (a6.alloc (.cells (ints .i64 (List.replicate 16 0)).toArray 124)) (j.alloc j.size (.cells (ints .i64 (List.replicate 16 0)).toArray 124)) ak
 have ah:Hid ((Tryz.prog.info? 124).map (·.size)=some (ints .i64 z1).length):=jh (by rw[zaa,a8];exact Tryz.arr124)
 have aa:Hid ((ints .i64 z1).length=(ints .i64 (List.replicate 16 0)).length):=jh (by rw[zaa,zaa,a8];rfl)
 have ac:=jh a2
 clear a al ab a6 ak j a8 ao az a2
 go_wp2_with (refine zal rfl _ _ _ rfl W.heap.size (ints .i64 z1) rfl rfl _ _ K5.o aa.o ah.o (zah _ _) ?_;intro w5 a4 G)
 rw[←hX]at a4 G⊢
 have J1:=jh (I.o.grown G (by simp;omega))
 have J2:=jh (n.o.grown G (by simp;omega))
 have J3:=jh (K.o.grown G (by simp;omega))
 have J4:=jh (K4.o.grown G K4.o.size (fun r f=>by cases f;omega))
 have J5:=jh a4
 have hE:leN l<2^256:=by
  have:=leN_lt l
  rw[HL.o]at this
  have e:(256:Nat)^32=2^256:=by decide+kernel
  rw[e]at this
  exact this
 have HE:=jh hE
 clear a4 G hX I n K K4 K5 y g d H4 aa ah ae hE
 go_loopw [6] (fun i wr=>∃(k:Nat) (zs:List Int),k≤256∧i=.int .i64 (255 - (k:Int))∧IsEl (.agg (ints .i64 zs).toArray) (x^(leN l / 2^(256 - k)))∧Blk wr A (ints .i64 C) 124∧Blk wr (A+1) (l.map bval) 23∧Blk wr (A+1+1) (ints .i64 (List.replicate 16 0)) 124∧Blk wr X (ints .i64 zs) 124∧Below w.heap.size w wr) (fun i _=>(intOf i+1).toNat)
 case atStart=>exact⟨0,z1,by omega,rfl,by rw[Nat.sub_zero,q160 HE.o,Int.pow_zero];exact ac.o,J1.o,J2.o,J3.o,J5.o,J4.o⟩
 case round=>
  clear J1 J2 J3 J4 J5 ac
  obtain⟨k,zs,hk,rfl,m,a,R,U,P,j⟩:=hrel
  have b7:(0:Int)≤(k:Int):=Int.natCast_nonneg _
  by_cases b3:k<256
  ·have i1:(0:Int)≤255 - (k:Int):=by omega
   have i2:(k:Int)≤255:=by omega
   have ag:=rmul_any _ _ _ _ wr m m
   have t:zs.length=16:=by
    obtain⟨b6,e,h,_⟩:=m
    have:=congrArg (fun v:Value=>match v with|.agg c=>c.size|_=>0) e
    simp[ints]at this
    omega
   have e1:=R.cell ((255 - k) / 8)
   rw[zbg (by have:=HL.o;omega)]at e1
   obtain⟨y,g,d,B,D,aj⟩:=jq6 a R U P j m
   have ap:=jh ag
   have J:Hid ((Tryz.prog.info? 124).map (·.size)=some (ints .i64 zs).length):=jh (by rw[zaa,t];exact Tryz.arr124)
   clear a R U P j m ag
   go_wp2_with (refine zbd rfl _ _ rfl X rfl _ _ _ _ B.o q103 J.o ?_)
   refine ap.o.mono ?_
   rintro e w6 ⟨r6,rfl,a0,s⟩
   obtain⟨F,rfl,a3,ar,b5,ax⟩:=id a0
   have O:=s.cell (p:=⟨A+1,(255 - k) / 8,none⟩) (g.o.lt)
   rw[e1]at O
   have I:=jh (y.o.same (s.block _ y.o.lt))
   have n:=jh (g.o.same (s.block _ g.o.lt))
   have K:=jh (d.o.same (s.block _ d.o.lt))
   have KX:=jh (B.o.same (s.block _ B.o.lt))
   have Q:=jh (D.o.trans (s.mono D.o.size))
   have Z:Hid ((Tryz.prog.info? 124).map (·.size)=some (ints .i64 F).length):=jh (by rw[zaa,a3];exact Tryz.arr124)
   have ad:Hid ((ints .i64 F).length=(ints .i64 zs).length):=jh (by rw[zaa,zaa,a3,t])
   have a1:=jh a0
   clear s a3 ar ax a0 e1 y g d B D t
   generalize ai:(l.getD ((255 - k) / 8) 0).toNat=V at*
   have av:=jh ai
   clear ai
   have s1:((255 - (k:Int)) / 8).toNat=(255 - k) / 8:=by omega
   have s2:(0:Int)≤(255 - (k:Int)) / 8:=by omega
   have s3:(255 - (k:Int)) / 8<32:=by omega
   have s4:(0:Int)≤(255 - (k:Int))%8:=by omega
   have s5:(255 - (k:Int))%8<8:=by omega
   have M:=half_step (E:=leN l) b3
   have H:=leN_bit l (255 - k) (by have:=HL.o;omega)
   rw[av.o]at H
   have S:(V:Int) / 2^((255 - k)%8)=((V / 2^((255 - k)%8):Nat):Int):=by
    rw[Int.natCast_ediv,Int.natCast_pow]
    rfl
   have T:256 - (k+1)=255 - k:=by omega
   by_cases a:leN l / 2^(255 - k)%2=1
   ·have hq:(bits .and .u8 ((V:Int) / 2^((255 - k)%8)) 1==1)=true:=by
     rw[S,andU1,←H,a]
     rfl
    have a5:Hid (x^(leN l / 2^(256 - (k+1)))=x^(leN l / 2^(256 - k))*x^(leN l / 2^(256 - k))*x):=jh (by
     rw[T,M,a,q124,Nat.two_mul,Int.pow_add])
    have b2:Hid ((Tryz.prog.info? 124).map (·.size)=some (ints .i64 C).length):=jh (by rw[zaa,LA.o];exact Tryz.arr124)
    clear M H S T a
    go_wp2_with (first|(refine zal rfl _ _ _ rfl X (ints .i64 F) rfl rfl _ _ KX.o ad.o Z.o (zah _ _) ?_;intro w7 q b;have e7:=(b.cell_far ⟨A+1,(255 - k) / 8,none⟩ (n.o.lt) (by simp;omega)).trans O;have k7:=I.o.grown b (by simp;omega))|(refine zbd rfl _ _ rfl X rfl _ _ _ _ q q103 Z.o ?_)|(refine zbd rfl _ _ rfl A rfl _ _ _ _ k7 q103 b2.o ?_))
    have L2:=jh (n.o.grown b (by simp;omega))
    have L3:=jh (K.o.grown b (by simp;omega))
    have LB:=jh (Q.o.grown b Q.o.size (fun r f=>by cases f;omega))
    obtain⟨LX,L1⟩:=jq2 q k7
    have HM:=jh (rmul_any _ _ _ _ w7 a1.o HU.o)
    clear q b e7 k7 O
    refine HM.o.mono ?_
    rintro e w8 ⟨r8,rfl,a7,z⟩
    obtain⟨L,rfl,Y,au,bb,aq⟩:=id a7
    have M1:=jh (L1.o.same (z.block _ L1.o.lt))
    have M2:=jh (L2.o.same (z.block _ L2.o.lt))
    have M3:=jh (L3.o.same (z.block _ L3.o.lt))
    have MX:=jh (LX.o.same (z.block _ LX.o.lt))
    have MB:=jh (LB.o.trans (z.mono LB.o.size))
    have an:Hid ((Tryz.prog.info? 124).map (·.size)=some (ints .i64 L).length):=jh (by rw[zaa,Y];exact Tryz.arr124)
    have ay:Hid ((ints .i64 L).length=(ints .i64 F).length):=jh (by rw[zaa,zaa,Y,el_len a1.o])
    have aw:=jh a7
    clear z Y au aq a7
    go_wp2_with (refine zal rfl _ _ _ rfl X (ints .i64 L) rfl rfl _ _ MX.o ay.o an.o (zah _ _) ?_;intro w9 am N)
    go_roundw
    case rel=>exact⟨k+1,L,by omega,by go_num,by rw[a5.o];exact aw.o,M1.o.grown N (by simp;omega),M2.o.grown N (by simp;omega),M3.o.grown N (by simp;omega),am,MB.o.grown N MB.o.size (fun r f=>by cases f;omega)⟩
    case measure=>simp[intOf];omega
   have a9:leN l / 2^(255 - k)%2=0:=by omega
   have hq:(bits .and .u8 ((V:Int) / 2^((255 - k)%8)) 1==1)=false:=by
    rw[S,andU1,←H,a9]
    rfl
   have a5:Hid (x^(leN l / 2^(256 - (k+1)))=x^(leN l / 2^(256 - k))*x^(leN l / 2^(256 - k))):=jh (by
    rw[T,M,a9,q149,Nat.two_mul,Int.pow_add])
   clear M H S T a a9
   go_wp2_with (refine zal rfl _ _ _ rfl X (ints .i64 F) rfl rfl _ _ KX.o ad.o Z.o (zah _ _) ?_;intro w7 q b;have e7:=(b.cell_far ⟨A+1,(255 - k) / 8,none⟩ (n.o.lt) (by simp;omega)).trans O)
   go_roundw
   case rel=>exact⟨k+1,F,by omega,by go_num,by rw[a5.o];exact a1.o,I.o.grown b (by simp;omega),n.o.grown b (by simp;omega),K.o.grown b (by simp;omega),q,Q.o.grown b Q.o.size (fun r f=>by cases f;omega)⟩
   case measure=>simp[intOf];omega
  have b1:k=256:=by omega
  subst b1
  have t:=el_len m
  obtain⟨B,d,D⟩:=jq3 P U j
  have aj:Hid (IsEl (.agg (ints .i64 zs).toArray) (x^leN l)):=jh (by simpa using m)
  have J:Hid ((Tryz.prog.info? 124).map (·.size)=some (ints .i64 zs).length):=jh (by rw[zaa,t];exact Tryz.arr124)
  have b0:Hid ((ints .i64 zs).length=(ints .i64 (List.replicate 16 0)).length):=jh (by rw[zaa,zaa,t];rfl)
  clear a R U P j m t
  go_wp2_with (first|(refine zbd rfl _ _ rfl X rfl _ _ _ _ B.o q103 J.o ?_)|(refine zal rfl _ _ _ rfl (A+1+1) _ rfl rfl _ _ d.o b0.o J.o (zah _ _) ?_;intro w7 q b))
  exact bodyPost_ret (v:=.agg (ints .i64 zs).toArray) (zam (by rfl) _ (A+1+1) _ _ _ _ (by rfl) q q103 J.o) rfl ⟨_,rfl,aj.o,D.o.grown b D.o.size (fun r f=>by cases f;omega)⟩
def nb(x:Int):List UInt8:=bytesN 32 (x%pP).toNat
theorem nb_length(x:Int):(nb x).length=32:=zaq _ _
def numP(x:Int):Value:=.agg ((bytesN 32 (x%pP).toNat).map bval).toArray
structure FullB(bs:List Int)(k:Nat):Prop where
 len:bs.length=32
 low:∀j,j<k→bs.getD j 0=255
theorem FullB.step {a:List Int} {k:Nat}(h:FullB a k)(b:k<32):FullB (a.set k 255) (k+1):=by
 obtain⟨h1,h2⟩:=h
 refine⟨by simp[h1],fun j c=>?_⟩
 by_cases e:j=k
 ·subst e
  rw[zai (by omega)]
 rw[zae (by omega)]
 exact h2 j (by omega)
theorem FullB.done {a:List Int}(h:FullB a 32):a=List.replicate 32 255:=by
 apply List.ext_getElem?
 intro i
 by_cases b:i<32
 ·have:=h.low i b
  have c:=h.len
  rw[List.getElem?_eq_getElem (by omega),List.getElem?_replicate,if_pos b]
  simpa[List.getD,show i<a.length from by omega]using this
 rw[List.getElem?_eq_none (by have:=h.len;omega),List.getElem?_eq_none (by simp;omega)]
theorem rin_el(l:List UInt8)(w:World)(d:l.length=32):
  Calls Tryz.prog 133 #[.agg (l.map bval).toArray] w fun e a=>∃r,e=.returned r∧IsEl r (leN l)∧Below w.heap.size w a:=by
 refine(rin_any l w d).mono ?_
 rintro e a ⟨zs,rfl,h1,h2,b,f⟩
 exact⟨_,rfl,⟨zs,rfl,h1,fun z c=>by have:=h2 z c;omega,0,by rw[b];omega⟩,f⟩
theorem fld_leN_p2:leN (bytesN 32 (pP - 2).toNat)=(pP - 2).toNat:=by decide+kernel
theorem rmost_any(w:World):Calls Tryz.prog 163 #[.int .i64 21] w fun e E=>e=.returned (.agg ((bytesN 32 (pP - 2).toNat).map bval).toArray)∧Below w.heap.size w E:=by
 have C:=jh (boxes2 w (ints .u8 (List.replicate 32 0)) (ints .u8 (List.replicate 32 0)) 23 23)
 go_enter Tryz.func163,Tryz.ntmps163
 go_wp2_with fail
 change Code.wp _ _ _ _ ((w.alloc (.cells (ints .u8 (List.replicate 32 0)).toArray 23)).alloc (.cells (ints .u8 (List.replicate 32 0)).toArray 23))
 generalize (w.alloc (.cells (ints .u8 (List.replicate 32 0)).toArray 23)).alloc (.cells (ints .u8 (List.replicate 32 0)).toArray 23)=S at*
 obtain⟨h1,h2,z⟩:=C.o
 obtain⟨A,t⟩:=nxq w.heap.size
 rw[←t]at h1 h2⊢
 have V:w.heap.size≤A:=by omega
 obtain⟨l,h,c⟩:=jq3 h1 h2 z
 clear h1 h2 z C t
 go_loopw [4] (fun i wr=>∃(k:Nat) (n:List Int),k≤32∧i=.int .i64 k∧FullB n k∧Blk wr A (ints .u8 (List.replicate 32 0)) 23∧Blk wr (A+1) (ints .u8 n) 23∧Below w.heap.size w wr) (fun i _=>32 - (intOf i).toNat)
 case atStart=>exact⟨0,_,by omega,rfl,⟨rfl,fun j Q=>by omega⟩,l.o,h.o,c.o⟩
 case round=>
  clear l h c
  obtain⟨k,n,X,rfl,d,g,b,f⟩:=hrel
  have P:(0:Int)≤(k:Int):=Int.natCast_nonneg _
  have y:=d.len
  by_cases K:k<32
  ·have U:(k:Int)<32:=by omega
   have x:=b.cell k
   rw[zas (by omega)]at x
   have I:=b.free k
   have B:=d.step K
   obtain⟨H,l,h,c⟩:=jq4 B g b f
   clear g b f d B y
   go_wp2_with fail
   go_roundw
   case rel=>
    refine⟨k+1,_,by omega,by go_num,H.o,l.o.far (by simp) _,?_,c.o.setCell (by simp;omega) _⟩
    rw[←zbw]
    exact h.o.set k _
   case measure=>simp[intOf];omega
  have O:k=32:=by omega
  subst O
  have J:=d.done
  subst J
  have x:wr.cell? ⟨A+1,31,none⟩=some (.int .u8 255):=by rw[b.cell 31];rfl
  have R:wr.cell? ⟨A+1,0,none⟩=some (.int .u8 255):=by rw[b.cell 0];rfl
  have I:=b.free 31
  have T:=b.free 0
  have m:=(b.set 31 (.int .u8 127)).set 0 (.int .u8 235)
  have u:=(g.far (a:=⟨A+1,31,none⟩) (by simp) (.int .u8 127)).far (a:=⟨A+1,0,none⟩) (by simp) (.int .u8 235)
  rw[zbw,zbw]at m
  have s:ints .u8 (((List.replicate 32 255).set 31 127).set 0 235)=(bytesN 32 (pP - 2).toNat).map bval:=by kernel_rfl
  rw[s]at m
  have q:Below w.heap.size w ((wr.setCell ⟨A+1,31,none⟩ (.int .u8 127)).setCell ⟨A+1,0,none⟩ (.int .u8 235)):=(f.setCell (by simp;omega) _).setCell (by simp;omega) _
  obtain⟨c,N,D⟩:=jq3 m u q
  have p:Hid ((Tryz.prog.info? 23).map (·.size)=some ((bytesN 32 (pP - 2).toNat).map bval).length):=jh (by rw[q100,zaq];exact Tryz.arr23)
  have F:Hid (((bytesN 32 (pP - 2).toNat).map bval).length=(ints .u8 (List.replicate 32 0)).length):=jh (by rw[q100,zaq];rfl)
  clear g b m u q f d y s
  go_wp2_with (first|(refine zbd rfl _ _ rfl (A+1) rfl _ _ _ _ c.o q102 p.o ?_)|(refine zal rfl _ _ _ rfl A _ rfl rfl _ _ N.o F.o p.o (zac _) ?_;intro Y L G))
  exact bodyPost_ret (v:=.agg ((bytesN 32 (pP - 2).toNat).map bval).toArray) (zam (by rfl) _ A _ _ _ _ (by rfl) L q102 p.o) rfl ⟨rfl,D.o.grown G D.o.size (fun r M=>by cases M;omega)⟩
theorem rinv_any(u:Value)(x:Int)(w:World)(a:IsEl u x):
  Calls Tryz.prog 122 #[u] w fun e k=>∃r,e=.returned r∧IsEl r (x^(pP - 2).toNat)∧Below w.heap.size w k:=by
 have H:=jh a
 obtain⟨d,rfl,C,P,V,F⟩:=a
 have a:=q103
 have g:(Tryz.prog.info? 124).map (·.size)=some (ints .i64 d).length:=by rw[zaa,C];exact Tryz.arr124
 obtain⟨B,T,D⟩:=jq3 a g (boxes2 w (ints .i64 d) (ints .i64 (List.replicate 16 0)) 124 124)
 clear C P F a g
 go_enter Tryz.func122,Tryz.ntmps122
 go_wp2_with fail
 change Code.wp _ _ _ _ ((w.alloc (.cells (ints .i64 d).toArray 124)).alloc (.cells (ints .i64 (List.replicate 16 0)).toArray 124))
 generalize (w.alloc (.cells (ints .i64 d).toArray 124)).alloc (.cells (ints .i64 (List.replicate 16 0)).toArray 124)=m at*
 obtain⟨h1,h2,E⟩:=D.o
 obtain⟨A,z⟩:=nxq w.heap.size
 rw[←z]at h1 h2⊢
 have a1:w.heap.size≤A:=by omega
 obtain⟨j,N,t⟩:=jq3 h1 h2 E
 clear h1 h2 E D z
 have g:=T.o
 have a:=B.o
 have l:Below m.heap.size m m.drew:=(Below.refl _ _).drew
 refine wp_region_held_drew (S:=fun k=>k.rangeAt A 0 (ints .i64 d)) (by kernel_rfl) (zax j.o l) (fun c=>?_)
 refine tke 0 (.agg (ints .i64 d).toArray) rfl (yieldsIf_load_mid (by rfl) _ _ rfl A 0 rfl _ _ (fun w h=>h) a rfl g) c ?_
 try simp only[nm]
 refine rdy 1 rfl fun K b=>?_
 go_simp
 refine(rmost_any _).mono ?_
 rintro e W ⟨rfl,U⟩
 have p:=l.trans (U.mono l.size)
 refine b.o _ _ (zax j.o p) (fun c=>?_)
 clear b K c
 try simp only[nm]
 refine rdy 2 rfl fun K b=>?_
 go_simp
 refine(rpow_any _ _ _ _ H.o (zaq 32 (pP - 2).toNat)).mono ?_
 rintro e Z ⟨Y,rfl,i,G⟩
 rw[fld_leN_p2]at i
 obtain⟨z2,rfl,n,O,a0,M⟩:=id i
 have f:=p.trans (G.mono p.size)
 refine b.o _ _ (zax j.o f) (fun c=>?_)
 clear b K c
 try simp only[nm]
 refine rdy 3 rfl fun K b=>?_
 have q:(Tryz.prog.info? 124).map (·.size)=some (ints .i64 z2).length:=by rw[zaa,n];exact Tryz.arr124
 rw[if_pos (by rfl)]
 refine zar _ _ _ rfl (A+1) (ints .i64 z2) rfl rfl _ _ (bl_blk N.o f) (by rw[zaa,zaa,n];rfl) q (zah _ _) ?_
 intro X y s
 refine b.o _ _ ((bl_blk j.o f).grown s (by simp)).range (fun c=>?_)
 clear b K c
 refine dne ?_
 have L:=jh ((t.o.trans (f.mono t.o.size)).grown s (q119 t.o.size f.size) (fun r R=>by cases R;omega))
 obtain⟨I,J,Q⟩:=jq3 q y i
 clear g a q y s i M O n
 go_wp2_with fail
 exact bodyPost_ret (v:=.agg (ints .i64 z2).toArray) (zam (by rfl) _ (A+1) _ _ _ _ (by rfl) J.o B.o I.o) rfl ⟨_,rfl,Q.o,L.o⟩
theorem radd_any(u v:Value)(x y:Int)(w:World)(hu:IsEl u x)(hv:IsEl v y):
  Calls Tryz.prog 136 #[u,v] w fun e w'=>∃r,e=.returned r∧IsEl r (x+y)∧Below w.heap.size w w':=by
 obtain⟨d,rfl,la,T,qa,Z⟩:=hu
 obtain⟨f,rfl,X,L,qb,M⟩:=hv
 obtain⟨K,S,H,n,VA,VB⟩:=jq6 T L la X Z M
 have Y:=jh (boxes3 w (ints .i64 d) (ints .i64 f) (ints .i64 (List.replicate 16 0)) 124 124 124)
 clear T L la X Z M
 go_enter Tryz.func136,Tryz.ntmps136
 go_wp2_with fail
 change Code.wp _ _ _ _ (((w.alloc (.cells (ints .i64 d).toArray 124)).alloc (.cells (ints .i64 f).toArray 124)).alloc (.cells (ints .i64 (List.replicate 16 0)).toArray 124))
 generalize ((w.alloc (.cells (ints .i64 d).toArray 124)).alloc (.cells (ints .i64 f).toArray 124)).alloc (.cells (ints .i64 (List.replicate 16 0)).toArray 124)=w0 at*
 obtain⟨h1,h2,G,R⟩:=Y.o
 obtain⟨A,N⟩:=nxq w.heap.size
 rw[←N]at h1 h2 G⊢
 have ah:w.heap.size≤A:=by omega
 obtain⟨W,J,O,Q⟩:=jq4 h1 h2 G R
 clear h1 h2 G R Y N
 go_loopw [5] (fun i wr=>∃(k:Nat) (zs:List Int),k≤16∧i=.int .i64 k∧AddS d f zs k∧Blk wr A (ints .i64 zs) 124∧Blk wr (A+1) (ints .i64 f) 124∧Blk wr (A+1+1) (ints .i64 (List.replicate 16 0)) 124∧Below w.heap.size w wr) (fun i _=>16 - (intOf i).toNat)
 case atStart=>exact⟨0,d,by omega,rfl,⟨H.o,by simp[dV],fun i _ _=>rfl,fun i C=>by omega⟩,W.o,J.o,O.o,Q.o⟩
 case round=>
  clear W J O Q
  obtain⟨k,zs,hk,rfl,c,g,s,B,m⟩:=hrel
  have ag:(0:Int)≤(k:Int):=Int.natCast_nonneg _
  have h:=c.len
  by_cases a0:k<16
  ·have e1:=g.cell k
   rw[zas (by omega),c.high k (q101 _) a0]at e1
   have e2:=s.cell k
   rw[zas (by have:=n.o;omega)]at e2
   have fk:=g.free k
   have i1:(k:Int)<16:=by omega
   have a2:=c.step a0 K.o S.o H.o n.o
   have b1:=zce (P:=fun z=> -131072≤z∧z≤131072) K.o (i:=k) (by have:=H.o;omega)
   have b2:=zce (P:=fun z=> -131072≤z∧z≤131072) S.o (i:=k) (by have:=n.o;omega)
   generalize d.getD k 0=a at*
   generalize f.getD k 0=b at*
   obtain⟨af,ad⟩:=b1
   obtain⟨ac,ae⟩:=b2
   have W1:Hid (wrap64 (a+b)=a+b):=jh (by rw[←IntWalk.i64_left];exact IntWalk.i64_in _ (by omega))
   obtain⟨aa,D,a3,l,j⟩:=jq5 a2 g s B m
   clear c a2 g s B m h
   go_wp2_with fail
   go_region
   go_wp2_with fail
   go_roundw
   case rel=>
    try rw[W1.o]
    refine⟨k+1,_,by omega,by go_num,aa.o,?_,a3.o.far (by simp) _,l.o.far (by simp;omega) _,(j.o.setCell (by simp;omega) _).drew⟩
    rw[←zbw]
    exact D.o.set k _
   case measure=>simp[intOf];omega
  have a7:k=16:=by omega
  subst a7
  have F:=c.val
  rw[q108 (by have:=n.o;omega)]at F
  have I:∀z∈zs,-262144≤z∧z≤262144:=zej (P:=fun z=> -262144≤z∧z≤262144) h (fun i C=>c.low i C C)
  obtain⟨D,l,j,a4⟩:=jq4 g B m F
  have a6:Hid ((Tryz.prog.info? 124).map (·.size)=some (ints .i64 zs).length):=jh (by rw[zaa,h];exact Tryz.arr124)
  have HC:=jh (carry_any zs 262144 wr h I (by omega) (by omega))
  clear g s B m c h F I
  go_wp2_with (refine zbd rfl _ _ rfl A rfl _ _ _ _ D.o q103 a6.o ?_)
  refine HC.o.mono ?_
  rintro e w5 ⟨p,rfl,t,E⟩
  have a8:Hid (Blk w5 (A+1+1) (ints .i64 (List.replicate 16 0)) 124):=jh (l.o.same (E.block _ l.o.lt))
  have a1:=jh (j.o.trans (E.mono j.o.size))
  have U:Hid ((Tryz.prog.info? 124).map (·.size)=some (ints .i64 p).length):=jh (by rw[zaa,t.len];exact Tryz.arr124)
  have a9:Hid ((ints .i64 p).length=(ints .i64 (List.replicate 16 0)).length):=jh (by rw[zaa,zaa,t.len];rfl)
  have V:=jh t
  clear E t
  go_wp2_with (refine zal rfl _ _ _ rfl (A+1+1) _ rfl rfl _ _ a8.o a9.o U.o (zah _ _) ?_;intro w6 a5 ab)
  obtain⟨q1,q,q2⟩:=V.o.el (by omega)
  refine bodyPost_ret (v:=.agg (ints .i64 p).toArray) (zam (by rfl) _ (A+1+1) _ _ _ _ (by rfl) a5 q103 U.o) rfl ⟨_,rfl,⟨p,rfl,V.o.len,q1,qa+qb+q,?_⟩,a1.o.grown ab a1.o.size (fun r hr=>by cases hr;omega)⟩
  rw[q2,a4.o,VA.o,VB.o]
  grind
section
def IsPrime(p:Nat):Prop:=2≤p∧∀d,d∣p→d=1∨d=p
theorem IsPrime.coprime {p a:Nat}(h:IsPrime p)(b:¬p∣a):Nat.Coprime p a:=by
 rcases h.2 _ (Nat.gcd_dvd_left p a)with h1|h1
 ·exact h1
 exact absurd (h1▸Nat.gcd_dvd_right p a) b
theorem IsPrime.dvd_mul {p a b:Nat}(h:IsPrime p)(d:p∣a*b):p∣a∨p∣b:=by
 by_cases c:p∣a
 ·exact Or.inl c
 exact Or.inr ((h.coprime c).dvd_of_dvd_mul_left d)
theorem exists_prime_dvd:∀(n:Nat),2≤n→∃r,IsPrime r∧r∣n
 |n,hn=>by
  by_cases h:∀d,d∣n→d=1∨d=n
  ·exact⟨n,⟨hn,h⟩,Nat.dvd_refl n⟩
  obtain⟨d,c⟩:=Classical.not_forall.1 h
  rw[Classical.not_imp]at c
  obtain⟨a,b⟩:=c
  have h1:d≠1:=fun e=>b (Or.inl e)
  have h2:d≠n:=fun e=>b (Or.inr e)
  have i:d≤n:=Nat.le_of_dvd (by omega) a
  have h0:d≠0:=fun e=>by
   subst e
   have:=Nat.eq_zero_of_zero_dvd a
   omega
  obtain⟨r,f,g⟩:=exists_prime_dvd d (by omega)
  exact⟨r,f,Nat.dvd_trans g a⟩
  termination_by n=>n
theorem prime_of_roots {n:Nat}(k:2≤n)(h:∀r,IsPrime r→r∣n→n<r*r):IsPrime n:=by
 refine⟨k,fun d m=>?_⟩
 by_cases h1:d=1
 ·exact Or.inl h1
 by_cases h2:d=n
 ·exact Or.inr h2
 exfalso
 obtain⟨e,i⟩:=m
 have A:d≠0:=fun e=>by subst e;omega
 have t:e≠0:=fun a=>by subst a;omega
 have z:e≠1:=fun a=>by subst a;omega
 obtain⟨r,p,f⟩:=exists_prime_dvd d (by omega)
 obtain⟨s,q,c⟩:=exists_prime_dvd e (by omega)
 have v:=h r p (i▸Nat.dvd_trans f (Nat.dvd_mul_right d e))
 have x:=h s q (i▸Nat.dvd_trans c (Nat.dvd_mul_left e d))
 have j:=Nat.le_of_dvd (by omega) f
 have b:=Nat.le_of_dvd (by omega) c
 have c1:=Nat.mul_le_mul j j
 have c2:=Nat.mul_le_mul b b
 have l:d*e<d*d:=by omega
 have g:d*e<e*e:=by omega
 have y:=Nat.lt_of_mul_lt_mul_left l
 have u:d<e:=by
  rw[q134 d e]at g
  exact Nat.lt_of_mul_lt_mul_left g
 omega
def ch:Nat→Nat→Nat
 |_,0=>1
 |0,_+1=>0
 |n+1,k+1=>ch n k+ch n (k+1)
theorem ch_mul:∀(n k:Nat),(k+1)*ch (n+1) (k+1)=(n+1)*ch n k
 |0,0=>by simp[ch]
 |0,k+1=>by simp[ch]
 |n+1,0=>by
  have:=ch_mul n 0
  simp only[ch]at this⊢
  omega
 |n+1,k+1=>by
  have h1:=ch_mul n k
  have h2:=ch_mul n (k+1)
  have e:ch (n+1+1) (k+1+1)=ch (n+1) (k+1)+ch (n+1) (k+1+1):=rfl
  have a:ch (n+1) (k+1)=ch n k+ch n (k+1):=rfl
  rw[e,Nat.mul_add,h2]
  have b:(k+1+1)*ch (n+1) (k+1)=(k+1)*ch (n+1) (k+1)+ch (n+1) (k+1):=by rw[Nat.add_mul (k+1) 1,Nat.one_mul]
  rw[b,h1,a,Nat.mul_add (n+1+1),Nat.add_mul (n+1) 1 (ch n k),Nat.add_mul (n+1) 1 (ch n (k+1))]
  omega
theorem ch_over:∀(n k:Nat),n<k→ch n k=0
 |_,0,h=>by omega
 |0,k+1,_=>rfl
 |n+1,k+1,h=>by
  show ch n k+ch n (k+1)=0
  rw[ch_over n k (by omega),ch_over n (k+1) (by omega)]
theorem ch_self:∀(n:Nat),ch n n=1
 |0=>rfl
 |n+1=>by
  show ch n n+ch n (n+1)=1
  rw[ch_self n,ch_over n (n+1) (by omega)]
def sumTo(f:Nat→Nat):Nat→Nat
 |0=>0
 |m+1=>sumTo f m+f m
theorem sumTo_shift(f:Nat→Nat):∀m,sumTo f (m+1)=f 0+sumTo (fun k=>f (k+1)) m
 |0=>by simp[sumTo]
 |m+1=>by
  have:=sumTo_shift f m
  simp only[sumTo]at this⊢
  omega
theorem sumTo_add(f g:Nat→Nat):∀m,sumTo (fun k=>f k+g k) m=sumTo f m+sumTo g m
 |0=>rfl
 |m+1=>by
  have:=sumTo_add f g m
  simp only[sumTo]at this⊢
  omega
theorem sumTo_mul(c:Nat)(f:Nat→Nat):∀m,sumTo (fun k=>c*f k) m=c*sumTo f m
 |0=>by simp[sumTo]
 |m+1=>by
  have:=sumTo_mul c f m
  simp only[sumTo,this,Nat.mul_add]
theorem sumTo_congr {f g:Nat→Nat}:∀m,(∀k,k<m→f k=g k)→sumTo f m=sumTo g m
 |0,_=>rfl
 |m+1,h=>by
  simp only[sumTo]
  rw[sumTo_congr m (fun k a=>h k (by omega)),h m (by omega)]
theorem binom(a:Nat):∀n,(a+1)^n=sumTo (fun k=>ch n k*a^k) (n+1)
 |0=>by simp[sumTo,ch]
 |n+1=>by
  have d:=binom a n
  have f:sumTo (fun k=>ch (n+1) k*a^k) (n+1+1)=1+sumTo (fun k=>ch (n+1) (k+1)*a^(k+1)) (n+1):=by
   rw[sumTo_shift]
   simp[ch]
  have b:sumTo (fun k=>ch (n+1) (k+1)*a^(k+1)) (n+1)=a*sumTo (fun k=>ch n k*a^k) (n+1)+sumTo (fun k=>ch n (k+1)*a^(k+1)) (n+1):=by
   rw[←sumTo_mul,←sumTo_add]
   refine sumTo_congr _ (fun k _=>?_)
   show (ch n k+ch n (k+1))*a^(k+1)=_
   rw[Nat.add_mul,q132,Nat.mul_left_comm a,q134 a]
  have e:sumTo (fun k=>ch n k*a^k) (n+1+1)=1+sumTo (fun k=>ch n (k+1)*a^(k+1)) (n+1):=by
   rw[sumTo_shift]
   cases n<;>simp[ch]
  have c:sumTo (fun k=>ch n k*a^k) (n+1+1)=sumTo (fun k=>ch n k*a^k) (n+1):=by
   simp[sumTo,ch_over n (n+1) (by omega)]
  rw[q132,d,f,b]
  rw[c]at e
  rw[Nat.mul_add,q148,q134 a]
  omega
theorem prime_ch {p k:Nat}(h:IsPrime p)(h0:0<k)(d:k<p):p∣ch p k:=by
 obtain⟨k,rfl⟩:∃j,k=j+1:=⟨k - 1,by omega⟩
 obtain⟨n,rfl⟩:∃n,p=n+1:=⟨p - 1,by omega⟩
 have c:=ch_mul n k
 rcases h.dvd_mul (a:=k+1) (b:=ch (n+1) (k+1)) (c▸Nat.dvd_mul_right _ _)with h1|h1
 ·have:=Nat.le_of_dvd (by omega) h1
  omega
 exact h1
theorem sumTo_dvd {p:Nat} {f:Nat→Nat}:∀m,(∀k,k<m→p∣f k)→p∣sumTo f m
 |0,_=>Nat.dvd_zero p
 |m+1,h=>Nat.dvd_add (sumTo_dvd m (fun k a=>h k (by omega))) (h m (by omega))
theorem fermat {p:Nat}(h:IsPrime p):∀a,a^p%p=a%p
 |0=>by
  rw[Nat.zero_pow (by have:=h.1;omega)]
 |a+1=>by
  have c:=fermat h a
  obtain⟨n,rfl⟩:∃n,p=n+1:=⟨p - 1,by have:=h.1;omega⟩
  have b:(n+1)∣sumTo (fun k=>ch (n+1) (k+1)*a^(k+1)) n:=sumTo_dvd n (fun k d=>Nat.dvd_trans (prime_ch h (by omega) (by omega)) (Nat.dvd_mul_right _ _))
  have e:(a+1)^(n+1)=1+sumTo (fun k=>ch (n+1) (k+1)*a^(k+1)) n+a^(n+1):=by
   rw[binom,sumTo_shift]
   simp only[sumTo,ch_self]
   simp[ch]
   omega
  obtain⟨t,ht⟩:=b
  rw[e,ht]
  generalize a^(n+1)=X at*
  generalize n+1=q at*
  rw[show 1+q*t+X=1+X+q*t from by omega,Nat.add_mul_mod_self_left,Nat.add_mod,c,←Nat.add_mod,Nat.add_comm]
theorem fermat1 {p a:Nat}(h:IsPrime p)(b:¬p∣a):a^(p - 1)%p=1:=by
 have d:=fermat h a
 have j:=h.1
 obtain⟨n,rfl⟩:∃n,p=n+1:=⟨p - 1,by omega⟩
 have g:0<a:=by
  rcases q151 a with e|e
  ·subst e
   exact absurd (Nat.dvd_zero _) b
  exact e
 have f:0<a^n:=Nat.pow_pos g
 rw[q132]at d
 have i:a≤a^n*a:=Nat.le_mul_of_pos_left a f
 have c:(n+1)∣a^n*a - a:=(Nat.dvd_iff_mod_eq_zero).2 (Nat.sub_mod_eq_zero_of_mod_eq d)
 have e:a^n*a - a=a*(a^n - 1):=by rw[Nat.mul_sub,q148,q134 a]
 rw[e]at c
 rcases h.dvd_mul c with h1|h1
 ·exact absurd h1 b
 rw[Nat.add_sub_cancel]
 obtain⟨t,ht⟩:=h1
 have:a^n=1+(n+1)*t:=by omega
 rw[this,Nat.add_mul_mod_self_left]
 exact q123 (by omega)
end
theorem pow_gcd {r b:Nat}:∀(u v:Nat),b^u%r=1%r→b^v%r=1%r→b^(Nat.gcd u v)%r=1%r:=by
 intro u v
 induction u,v using Nat.gcd.induction with
 |H0 n=>
  intro _ h
  rwa [Nat.gcd_zero_left]
 |H1 m n hm ih=>
  intro h1 h2
  rw[Nat.gcd_rec]
  refine ih ?_ h1
  have e:b^n=(b^m)^(n / m)*b^(n%m):=by rw[←Nat.pow_mul,←Nat.pow_add,Nat.div_add_mod]
  rw[e,Nat.mul_mod,Nat.pow_mod,h1,←Nat.pow_mod,Nat.one_pow,←Nat.mul_mod,Nat.one_mul]at h2
  exact h2
theorem pock {r q m b:Nat}(a:IsPrime r)(d:IsPrime q)(h1:b^(m*q)%r=1%r)(h2:b^m%r≠1%r):q∣r - 1:=by
 apply Classical.byContradiction
 intro f
 have h:=d.coprime f
 have j:=a.1
 have c:(b^m)^q%r=1%r:=by rw[←Nat.pow_mul];exact h1
 have e:¬r∣b^m:=fun i=>by
  obtain⟨t,ht⟩:=i
  rw[ht,Nat.pow_mod,Nat.mul_mod_right,Nat.zero_pow (by have:=d.1;omega),Nat.zero_mod,q123 (by omega)]at c
  omega
 have g:(b^m)^(r - 1)%r=1%r:=by
  rw[fermat1 a e,q123 (by omega)]
 have:=pow_gcd q (r - 1) c g
 rw[h,Nat.pow_one]at this
 exact h2 this
def pm(n:Nat):Nat→Nat→Nat→Nat
 |0,_,_=>1%n
 |f+1,b,e=>if e%2=1 then b*pm n f (b*b%n) (e / 2)%n else pm n f (b*b%n) (e / 2)
theorem pm_eq {n:Nat}:∀(f b e:Nat),e<2^f→pm n f b e=b^e%n
 |0,b,e,h=>by
  have:e=0:=by simpa using h
  subst this
  rfl
 |f+1,b,e,h=>by
  have d:e / 2<2^f:=by rw[q132]at h;omega
  have a:(b*b%n)^(e / 2)%n=b^(2*(e / 2))%n:=by rw[←Nat.pow_mod,←Nat.pow_two,←Nat.pow_mul]
  simp only[pm,pm_eq f _ _ d]
  by_cases c:e%2=1
  ·rw[if_pos c,a,Nat.mul_mod,Nat.mod_mod,←Nat.mul_mod,q134 b,←q132]
   congr 2
   omega
  rw[if_neg c,a]
  congr 2
  omega
def wit(N q b f:Nat):Bool:=decide ((N - 1)%q=0) && decide (N - 1<2^f) && decide (pm N f b (N - 1)=1) && decide (Nat.gcd (pm N f b ((N - 1) / q)+(N - 1)) N=1)
theorem wit_dvd {N q b f r:Nat}(p:2≤N)(h:wit N q b f=true)(k:IsPrime q)(d:IsPrime r)(a:r∣N):q∣r - 1:=by
 unfold wit at h
 simp only[Bool.and_eq_true,decide_eq_true_eq]at h
 obtain⟨⟨⟨h1,h2⟩,c⟩,e⟩:=h
 have l:(N - 1) / q≤N - 1:=Nat.div_le_self _ _
 rw[pm_eq _ _ _ h2]at c
 rw[pm_eq _ _ _ (by omega)]at e
 have i:(N - 1) / q*q=N - 1:=Nat.div_mul_cancel (Nat.dvd_of_mod_eq_zero h1)
 have n:=d.1
 refine pock (m:=(N - 1) / q) (b:=b) d k ?_ ?_
 ·rw[i]
  obtain⟨t,ht⟩:=a
  have:b^(N - 1)%N%r=1%r:=by rw[c]
  rwa [Nat.mod_mod_of_dvd _ ⟨t,ht⟩]at this
 intro g
 have j:r∣b^((N - 1) / q)%N+(N - 1):=by
  apply Nat.dvd_of_mod_eq_zero
  rw[Nat.add_mod,Nat.mod_mod_of_dvd _ a,g,←Nat.add_mod]
  have:1+(N - 1)=N:=by omega
  rw[this]
  exact Nat.mod_eq_zero_of_dvd a
 have:=Nat.dvd_gcd j a
 rw[e]at this
 have:=Nat.le_of_dvd (by omega) this
 omega
theorem prime_by1 {N q b f:Nat}(c:2≤N)(g:IsPrime q)(h:wit N q b f=true)(d:N<(q+1)*(q+1)):IsPrime N:=by
 refine prime_of_roots c (fun r a e=>?_)
 have h1:=wit_dvd c h g a e
 have i:=a.1
 have:=Nat.le_of_dvd (by omega) h1
 exact q116 d (Nat.mul_le_mul (by omega) (by omega))
theorem prime_by2 {N q s b c f:Nat}(i:2≤N)(g:IsPrime q)(j:IsPrime s)(n:q≠s)(h:wit N q b f=true)(l:wit N s c f=true)(k:N<(q*s+1)*(q*s+1)):IsPrime N:=by
 refine prime_of_roots i (fun r d a=>?_)
 have h1:=wit_dvd i h g d a
 have h2:=wit_dvd i l j d a
 have p:=d.1
 have m:Nat.Coprime q s:=g.coprime (fun a=>by
  rcases j.2 q a with e|e
  ·have:=g.1;omega
  exact n e)
 have:=Nat.le_of_dvd (by omega) (m.mul_dvd_of_dvd_of_dvd h1 h2)
 exact q116 k (Nat.mul_le_mul (by omega) (by omega))
def small(n m:Nat):Bool:=(List.range m).all fun d=>decide (n%(d+2)≠0)
theorem zeg {n m:Nat}(b:2≤n)(h:small n m=true)(c:n<(m+2)*(m+2)):IsPrime n:=by
 refine prime_of_roots b (fun r a d=>?_)
 have e:=a.1
 rcases q114 r (m+2)with h1|h1
 ·unfold small at h
  rw[List.all_eq_true]at h
  have:=h (r - 2) (by rw[List.mem_range];omega)
  simp only[decide_eq_true_eq]at this
  rw[show r - 2+2=r from by omega]at this
  exact absurd (Nat.mod_eq_zero_of_dvd d) this
 exact q116 c (Nat.mul_le_mul h1 h1)
theorem prime_127:IsPrime 127:=zeg (m:=10) (by decide) (by decide+kernel) (by decide)
theorem prime_4153:IsPrime 4153:=zeg (m:=63) (by decide) (by decide+kernel) (by decide)
theorem prime_430751:IsPrime 430751:=zeg (m:=655) (by decide) (by decide+kernel) (by decide)
theorem prime_569003:IsPrime 569003:=zeg (m:=753) (by decide) (by decide+kernel) (by decide)
theorem prime_8574133:IsPrime 8574133:=zeg (m:=2927) (by decide) (by decide+kernel) (by decide)
theorem prime_a:IsPrime 2773320623:=prime_by1 (q:=569003) (b:=5) (f:=32) (by decide) prime_569003 (by decide+kernel) (by decide)
theorem prime_b:IsPrime 72106336199:=prime_by1 (q:=2773320623) (b:=2) (f:=37) (by decide) prime_a (by decide+kernel) (by decide)
theorem prime_c:IsPrime 1919519569386763:=prime_by2 (q:=8574133) (s:=127) (b:=2) (c:=2) (f:=51) (by decide) prime_8574133 prime_127 (by decide) (by decide+kernel) (by decide+kernel) (by decide)
theorem prime_d:IsPrime 31757755568855353:=prime_by2 (q:=430751) (s:=4153) (b:=2) (c:=2) (f:=55) (by decide) prime_430751 prime_4153 (by decide) (by decide+kernel) (by decide+kernel) (by decide)
theorem prime_e:IsPrime 75445702479781427272750846543864801:=prime_by2 (q:=1919519569386763) (s:=72106336199) (b:=2) (c:=2) (f:=116) (by decide) prime_c prime_b (by decide) (by decide+kernel) (by decide+kernel) (by decide)
theorem prime_f:IsPrime 74058212732561358302231226437062788676166966415465897661863160754340907:=prime_by2 (q:=75445702479781427272750846543864801) (s:=31757755568855353) (b:=2) (c:=2) (f:=236) (by decide) prime_e prime_d (by decide) (by decide+kernel) (by decide+kernel) (by decide)
theorem prime_p:IsPrime 57896044618658097711785492504343953926634992332820282019728792003956564819949:=prime_by1 (q:=74058212732561358302231226437062788676166966415465897661863160754340907) (b:=2) (f:=255) (by decide) prime_f (by decide+kernel) (by decide)
theorem prime_pN:IsPrime pN:=prime_p
theorem p_domain {x y:Int}(h:pP∣x*y):pP∣x∨pP∣y:=by
 rw[pP_nat]at*
 have h1:=Int.natAbs_dvd_natAbs.2 h
 rw[Int.natAbs_mul,Int.natAbs_natCast]at h1
 rcases prime_pN.dvd_mul h1 with h2|h2
 ·exact Or.inl (Int.natAbs_dvd_natAbs.1 (by rw[Int.natAbs_natCast];exact h2))
 exact Or.inr (Int.natAbs_dvd_natAbs.1 (by rw[Int.natAbs_natCast];exact h2))
def Cong(x y:Int):Prop:=pP∣x - y
theorem Cong.refl(x:Int):Cong x x:=by unfold Cong;rw[Int.sub_self];exact Int.dvd_zero _
theorem Cong.symm {x y:Int}(h:Cong x y):Cong y x:=by
 obtain⟨q,a⟩:=h
 exact⟨-q,by grind⟩
theorem Cong.trans {x y z:Int}(h:Cong x y)(g:Cong y z):Cong x z:=by
 obtain⟨q,a⟩:=h
 obtain⟨r,b⟩:=g
 exact⟨q+r,by grind⟩
theorem Cong.mul {x y u v:Int}(h:Cong x y)(g:Cong u v):Cong (x*u) (y*v):=by
 obtain⟨q,a⟩:=h
 obtain⟨r,b⟩:=g
 exact⟨q*u+y*r,by
  have:x=y+pP*q:=by grind
  have:u=v+pP*r:=by grind
  subst x
  subst u
  grind⟩
theorem Cong.pow {x y:Int}(h:Cong x y):∀n:Nat,Cong (x^n) (y^n)
 |0=>by
  rw[Int.pow_zero,Int.pow_zero]
  exact Cong.refl _
 |n+1=>by
  rw[q124,q124]
  exact(Cong.pow h n).mul h
theorem cong_iff {x y:Int}:Cong x y↔x%pP=y%pP:=by
 constructor
 ·intro h
  exact Int.emod_eq_emod_iff_emod_sub_eq_zero.2 (Int.emod_eq_zero_of_dvd h)
 intro h
 exact Int.dvd_of_emod_eq_zero (Int.emod_eq_emod_iff_emod_sub_eq_zero.1 h)
theorem cong_mod(x:Int):Cong (x%pP) x:=by
 rw[cong_iff,Int.emod_emod]
theorem p_fermat {x:Int}(h:¬pP∣x):Cong (x^(pN - 1)) 1:=by
 have j:(0:Int)<pP:=by decide+kernel
 have h0:=Int.emod_nonneg x (show pP≠0 by omega)
 obtain⟨a,c⟩:=Int.eq_ofNat_of_zero_le h0
 have f:¬pN∣a:=fun g=>h (by
  apply Int.dvd_of_emod_eq_zero
  have b:=Int.emod_lt_of_pos x j
  rw[c]at b⊢
  obtain⟨t,ht⟩:=g
  rw[pP_nat]at b
  have:a<pN:=by omega
  have d:t=0:=by
   rcases q151 t with e|e
   ·exact e
   have:=Nat.le_mul_of_pos_right pN e
   omega
  subst d
  rw[ht]
  simp)
 have i:=fermat1 prime_pN f
 have h1:Cong ((a:Int)^(pN - 1)) 1:=by
  rw[cong_iff,pP_nat,←Int.natCast_pow]
  have:(1:Int)%(pN:Int)=((1%pN:Nat):Int):=by rw[Int.natCast_emod];rfl
  rw[this,←Int.natCast_emod,i]
  rfl
 have h2:=(cong_mod x).pow (pN - 1)
 rw[c]at h2
 exact h2.symm.trans h1
end Go.Proofs.YtgnfdonbholcdaaGreatDoor


