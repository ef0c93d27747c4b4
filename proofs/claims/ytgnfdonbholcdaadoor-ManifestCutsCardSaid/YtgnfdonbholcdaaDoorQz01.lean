/- Lemmas. -/
import Derived.WalkKit
import Derived.WalkSpells
import Derived.WalkLawsBesides
import Derived.Lib.Hide
import Derived.Deep.QuietTactic
import Derived.BigQuiet
import Derived.Deep.RegionHeld3
import Derived.Deep.AppendLies
import Derived.OneCell
import Derived.Deep.RegionHeld
import Derived.KernelRfl
import Derived.ProofKit
import Derived.Deep.Slices
import Derived.Laws.Cover2
import Derived.OpenShut
import Derived.Test.YtgnfdonbholcdaaDoorRows
import Derived.Deep.MidRow
import Derived.LaidMore
import Derived.Stop.Joined
import Derived.SevenTiedAt
import Derived.Deep.Quiet
import Derived.OrdersHeld
import Derived.ChangeKeysEq
import Derived.Laws.ResultCell
import Derived.Great.BuildSlice
import Derived.Laws.Tables
import Derived.Deep.CutRange
import Derived.Deep.RegionWith
import Derived.StillTailTactics
import Derived.ScopeJumps
import Derived.Control
import Derived.Deep.Strs
import Derived.Laws.CopyOwn
import Derived.Laws.MakeOwn
import Derived.Lib.SlBytesConst
import Derived.Laws.Slices
import Derived.Laws.Entries
import Derived.Laws.OwnMore
import Derived.Deep.Onto
import Derived.Laws.AppendOwn
import Derived.LoopN
import Derived.Laws.StructEq
import Derived.Lib.AppendStr
import Derived.Lib.AppendZeros
import Derived.WalkMore
namespace Go.Proofs.YtgnfdonbholcdaaDoor
set_option linter.unusedVariables false
set_option maxRecDepth 100000
set_option maxHeartbeats 32000000
set_option linter.unusedSimpArgs false
open Go.RowKit
theorem q100:type_of%@List.length_map:=@List.length_map
theorem q101:type_of%@Nat.le_refl:=@Nat.le_refl
theorem q102:type_of%@List.length_append:=@List.length_append
theorem q103:type_of%@List.length_cons:=@List.length_cons
theorem q104:type_of%@List.map_append:=@List.map_append
theorem q105:type_of%@List.take_of_length_le:=@List.take_of_length_le
theorem q106:type_of%@List.length_take:=@List.length_take
theorem q107:type_of%@List.append_assoc:=@List.append_assoc
theorem q108:type_of%@Nat.lt_or_ge:=@Nat.lt_or_ge
theorem q109:type_of%@Nat.lt_of_lt_of_le:=@Nat.lt_of_lt_of_le
theorem q110:type_of%@List.length_replicate:=@List.length_replicate
theorem q111:type_of%@Nat.zero_add:=@Nat.zero_add
theorem q112:type_of%@Nat.mod_eq_of_lt:=@Nat.mod_eq_of_lt
theorem q113:type_of%@List.length_drop:=@List.length_drop
theorem q114:type_of%@Int.pow_succ:=@Int.pow_succ
theorem q115:type_of%@List.length_nil:=@List.length_nil
theorem q116:type_of%@List.nil_append:=@List.nil_append
theorem q117:type_of%@List.length_set:=@List.length_set
theorem q118:type_of%@Nat.le_trans:=@Nat.le_trans
theorem q119:type_of%@Nat.pow_succ:=@Nat.pow_succ
theorem q120:type_of%@Nat.mul_comm:=@Nat.mul_comm
theorem q121:type_of%@List.map_cons:=@List.map_cons
theorem q122:type_of%@List.map_nil:=@List.map_nil
theorem q123:type_of%@List.append_nil:=@List.append_nil
theorem q124:type_of%@Nat.and_two_pow_sub_one_eq_mod:=@Nat.and_two_pow_sub_one_eq_mod
theorem q125:type_of%@List.take_length:=@List.take_length
theorem q126:type_of%@List.take_append_drop:=@List.take_append_drop
theorem q127:type_of%@List.size_toArray:=@List.size_toArray
theorem q128:type_of%@List.take_succ_eq_append_getElem:=@List.take_succ_eq_append_getElem
theorem q129:type_of%@Nat.eq_zero_or_pos:=@Nat.eq_zero_or_pos
theorem q130:type_of%@Int.mul_nonneg:=@Int.mul_nonneg
theorem q131:type_of%@List.eq_nil_of_length_eq_zero:=@List.eq_nil_of_length_eq_zero
theorem q132:type_of%@Int.emod_eq_of_lt:=@Int.emod_eq_of_lt
theorem q133:type_of%@Nat.div_eq_of_lt:=@Nat.div_eq_of_lt
theorem q134:type_of%@Nat.min_eq_left:=@Nat.min_eq_left
theorem q135:type_of%@World.block_lt_of_cell? :=@World.block_lt_of_cell?
theorem q136:type_of%@List.mem_cons_of_mem:=@List.mem_cons_of_mem
theorem q137:type_of%@Nat.div_div_eq_div_mul:=@Nat.div_div_eq_div_mul
theorem q138:type_of%@List.take_succ_cons:=@List.take_succ_cons
theorem q139:type_of%@List.drop_eq_getElem_cons:=@List.drop_eq_getElem_cons
theorem nrm {α:Type}:(∀(l:List α) (i:Nat) (h:i<l.toArray.size),l.toArray[i]=l[i]'(by simpa using h))∧(∀(a:α) (l:List α) (h:0<(a::l).length),(a::l)[0]=a)∧(∀(a:α) (l:List α) (i:Nat) (h:i+1<(a::l).length),(a::l)[i+1]=l[i]'(by simpa using h))∧
  (∀(l:List α) (i:Nat) (a:α),l.toArray.setIfInBounds i a=(l.set i a).toArray)∧(∀(a b:α) (l:List α),(a::l).set 0 b=b::l)∧(∀(a b:α) (l:List α) (i:Nat),(a::l).set (i+1) b=a::l.set i b):=
 ⟨fun _ _ _=>by simp,fun _ _ _=>rfl,fun _ _ _ _=>rfl,fun _ _ _=>by simp,fun _ _ _=>rfl,fun _ _ _ _=>rfl⟩
theorem nm:(∀(a:Act) (i:Nat) (v:Value),a.put (some i) v={ a with tmps:=a.tmps.setIfInBounds i v })∧(∀(a:Act) (v:Value),a.put none v=a)∧
  (∀(l:List Value) (i:Nat) (a:Value),l.toArray.setIfInBounds i a=(l.set i a).toArray)∧(∀(a b:Value) (l:List Value),(a::l).set 0 b=b::l)∧(∀(a b:Value) (l:List Value) (i:Nat),(a::l).set (i+1) b=a::l.set i b)∧
  (∀(l:List Oper) (i:Nat) (h:i<l.toArray.size),l.toArray[i]=l[i]'(by simpa using h))∧(∀(a:Oper) (l:List Oper) (h:0<(a::l).length),(a::l)[0]=a)∧(∀(a:Oper) (l:List Oper) (i:Nat) (h:i+1<(a::l).length),(a::l)[i+1]=l[i]'(by simpa using h))∧
  (∀(l:List Value) (i:Nat) (h:i<l.toArray.size),l.toArray[i]=l[i]'(by simpa using h))∧(∀(a:Value) (l:List Value) (h:0<(a::l).length),(a::l)[0]=a)∧(∀(a:Value) (l:List Value) (i:Nat) (h:i+1<(a::l).length),(a::l)[i+1]=l[i]'(by simpa using h)):=
 ⟨fun _ _ _=>rfl,fun _ _=>rfl,fun _ _ _=>by simp,fun _ _ _=>rfl,fun _ _ _ _=>rfl,fun _ _ _=>by simp,fun _ _ _=>rfl,fun _ _ _ _=>rfl,fun _ _ _=>by simp,fun _ _ _=>rfl,fun _ _ _ _=>rfl⟩
theorem jh {p:Prop}(h:p):RowKit.Hid p:=Lib.hid h
theorem jq2 {b a:Prop}(h0:b)(h1:a):Hid b∧Hid a:=⟨h0,h1⟩
theorem jq3 {c a b:Prop}(h0:c)(h1:a)(h2:b):Hid c∧Hid a∧Hid b:=⟨h0,h1,h2⟩
theorem jq4 {c b d a:Prop}(h0:c)(h1:b)(h2:d)(e:a):Hid c∧Hid b∧Hid d∧Hid a:=⟨h0,h1,h2,e⟩
theorem jq5 {d b e a c:Prop}(h0:d)(h1:b)(h2:e)(f:a)(g:c):Hid d∧Hid b∧Hid e∧Hid a∧Hid c:=⟨h0,h1,h2,f,g⟩
theorem jq6 {d b e a c f:Prop}(h0:d)(h1:b)(h2:e)(g:a)(h:c)(i:f):Hid d∧Hid b∧Hid e∧Hid a∧Hid c∧Hid f:=⟨h0,h1,h2,g,h,i⟩
theorem nxq {α:Type} (a:α):∃b,b=a:=⟨a,rfl⟩
theorem _root_.Go.RowKit.Hid.o {p:Prop}(h:Hid p):p:=h
theorem _root_.Go.Shut.o {p:Prop}(h:Shut p):p:=h
theorem rdy {P:Program} {b:Array Oper} {Q:Exit→Act→World→Prop} {md:Region.Mode} {S:World→Prop} {fuel:Nat} {c:Array Bool} {a:Act} {w:World}(i:Nat) {o:Oper}(e:b[i]? =some o)
  (k:∀d:Act→World→Prop,Shut (∀a w,S w→(S w→wpAnyH P md b Q S fuel (c.setIfInBounds i true) a w)→d a w)→if Region.wanted o (yielded b a.tmps)=true then Oper.wp P o a w d Q else d (a.put o.dst undef) w)
  (f:Region.ready md b c=[i]:=by kernel_rfl):wpAnyH P md b Q S (fuel+1) c a w:=
 wpAnyH_ready (rs:=[i]) f (by simp) (AllReadyH.cons e k AllReadyH.nil)
theorem tke {P:Program} {b:Array Oper} {Q:Exit→Act→World→Prop} {md:Region.Mode} {S:World→Prop} {fuel:Nat} {d:Array Bool} {a:Act} {w:World}(i:Nat)(v:Value) {e:Oper}(l:b[i]? =some e)
  (y:YieldsIf P b S e v a) (g:S w) (k:wpAnyH P md b Q S fuel (d.setIfInBounds i true) (a.put e.dst v) w)
  (h1:Region.noSelect b=true:=by kernel_rfl) (h2:Region.free md b d i=true:=by kernel_rfl) (f:(Region.ready md b d).contains i=true:=by kernel_rfl)
  (j:∀(c:List PanicEntry) (a:Act) (w:World),Q (.panic c) (a.put e.dst v) w→Q (.panic c) a w:=by exact fun _ _ _ h=>h):wpAnyH P md b Q S (fuel+1) d a w:=
 wpAnyH_take (i:=i) (v:=v) l h1 h2 f j y g k
theorem dne {P:Program} {c:Array Oper} {Q:Exit→Act→World→Prop} {md:Region.Mode} {S:World→Prop} {b:Array Bool} {a:Act} {w:World} {fuel:Nat}(k:Q .normal a w)(d:Region.ready md c b=[]:=by kernel_rfl):wpAnyH P md c Q S fuel b a w:=
 wpAnyH_done d k fuel
section
def Row1(w:World)(v:Value)(vs:List Value):Prop:=
 ∃a cap,v=.slice a vs.length cap∧vs.length≤cap∧cap≤maxLen∧(a=none→cap=0)∧(vs≠[]→∃b off,a=some ⟨b,off,none⟩∧b<w.heap.size∧∀i,i<vs.length→w.cell? ⟨b,off+i,none⟩=vs[i]?)
section
variable {P:Program} {w w':World} {v:Value} {vs:List Value}
theorem Row1.nil(w:World):Row1 w (.slice none 0 0) []:=⟨none,0,rfl,q101 _,Nat.zero_le _,fun _=>rfl,fun h=>absurd rfl h⟩
theorem Row1.same(h:Row1 w v vs)(g:w.heap.size≤w'.heap.size)(m:∀p:Addr,v.ownBlock=some p.block→p.block<w.heap.size→w'.cell? p=w.cell? p):Row1 w' v vs:=by
 obtain⟨a,e,rfl,h1,h2,d,j⟩:=h
 refine⟨a,e,rfl,h1,h2,d,fun k=>?_⟩
 obtain⟨b,off,rfl,c,l⟩:=j k
 exact⟨b,off,rfl,q109 c g,fun i f=>(m ⟨b,off+i,none⟩ rfl c).trans (l i f)⟩
theorem Row1.below(h:Row1 w v vs)(a:Below w.heap.size w w'):Row1 w' v vs:=h.same a.size fun _ _ b=>a.cell b
theorem Row1.drew(h:Row1 w v vs):Row1 w.drew v vs:=h
theorem Row1.alloc(h:Row1 w v vs)(o:Obj):Row1 (w.alloc o) v vs:=h.below ((Below.refl _ _).alloc (q101 _) o)
theorem Row1.grown {row:Option Nat}(h:Row1 w v vs)(a:w.grownBy w' row)(c:∀k,row=some k→v.ownBlock≠some k):Row1 w' v vs:=
 h.same a.size fun p d b=>a.cell_far p b fun e=>c p.block e.symm d
theorem Row1.store(h:Row1 w v vs) {a:Addr}(b:v.ownBlock≠some a.block)(u:Value):Row1 (w.setCell a u) v vs:=by
 refine h.same (by simp) fun p c _=>?_
 refine World.cell?_of_block (w:=w) ?_
 exact Below.heap_setCell w a u p.block (fun e=>b (by rw[c,e]))
theorem below_drewN {B:Nat} {a:World}(h:Below B a w)(n:Nat):Below B a (w.drewN n):=h.trans ⟨rfl,rfl,rfl,q101 _,fun _ _=>rfl⟩
theorem Row1.of_own {base:Nat} {e:TypeId} {n:Nat}(h:w.ownsRow base e 1 v n vs):Row1 w v vs:=by
 have b:vs.length=n:=by have:=h.1;omega
 rcases h.2 with⟨rfl,h0⟩|⟨g,a,f,rfl,j,c,h1,h2,_,_⟩
 ·have:vs=[]:=q131 (by omega)
  subst this
  exact Row1.nil w
 refine⟨some ⟨g,0,none⟩,a,by rw[b],by omega,h2,(fun e=>by cases e),fun _=>⟨g,0,rfl,(h.lt g rfl).2,fun i d=>?_⟩⟩
 rw[q111]
 exact h.cellAt i (by omega)
theorem Row1.own_ne {base:Nat} {e:TypeId} {size n:Nat} {a:List Value} {x:Value}(h:w.ownsRow base e size x n a) {k:Nat}(b:k<base):x.ownBlock≠some k:=by
 intro e
 have:=(h.lt k e).1
 omega
theorem run_append_row(t k e:TypeId)(i:TypeInfo)(z:Value)(m:Nat)(ht:P.underlying t=some (.slice e))(p:P.info? e=some i)(E:i.zero=some z)
  (q:i.size=1) (O:i.bytes=m) (r:z.cells.size=1) (base:Nat) (x:Value) (n:Nat) (g:List Value) (l:w.ownsRow base e 1 x n g)
  (K:Row1 w v vs) (h1:∀u∈vs,u.oneCell'=true) (I:n+vs.length≤maxLen) (N:(n+vs.length)*m≤140737488355328) (F:base≤w.heap.size):
  ∃d c,(Builtin.append_ #[t,t] k #[x,v]).run P w=.ok d c∧c.ownsRow base e 1 d (n+vs.length) (g++vs)∧w.grownBy c x.ownBlock:=by
 obtain⟨a,L,rfl,Q,R,B,s⟩:=K
 cases a with
 |none=>
  have C:=B rfl
  have:vs=[]:=q131 (by omega)
  subst this
  subst C
  refine⟨x,w,run_append_owned_none w base t k e i 1 ht p x n g l,?_,World.grownBy.refl _ _⟩
  simpa using l
 |some ad=>
  have J:∀j u,vs[j]? =some u→w.cell? (ad.add j)=some u:=by
   intro j u f
   have y:vs≠[]:=by intro e;subst e;simp at f
   obtain⟨b,off,G,S,M⟩:=s y
   cases G
   have A:j<vs.length:=by
    rcases q108 j vs.length with h|h
    ·exact h
    rw[List.getElem?_eq_none h]at f;cases f
   rw[WideShapes.add_plain,M j A,f]
  obtain⟨d,c,H,h2,D,_⟩:=run_append_own (P:=P) w base t k e i z 1 m ht p E q O r (by omega) x n g l ad vs.length L vs (by omega) J h1 I N F
  exact⟨d,c,H,h2,D⟩
theorem zbe {o:Oper} {a:Act} {K:Act→World→Prop} {Q:Exit→Act→World→Prop}(s y:Operand)(t:TypeId)
  (l:o.op=.call { callee:=.builtin .append,args:=#[s,y],argTypes:=#[t,t] })
  (base:Nat) (e:TypeId) (i:TypeInfo) (z:Value) (f:Nat) (ht:P.underlying t=some (.slice e)) (r:P.info? e=some i) (p:i.zero=some z)
  (g:i.size=1) (G:i.bytes=f) (k:z.cells.size=1)
  (x:Value) (n:Nat) (d:List Value) (A:a.eval s=x) (D:w.ownsRow base e 1 x n d)
  (j:a.eval y=v) (E:Row1 w v vs) (h1:∀u∈vs,u.oneCell'=true)
  (C:n+vs.length≤maxLen) (F:(n+vs.length)*f≤140737488355328) (q:base≤w.heap.size)
  (h:∀c b,b.ownsRow base e 1 c (n+vs.length) (d++vs)→w.grownBy b x.ownBlock→K (a.put o.dst c) b):o.wp P a w K Q:=by
 obtain⟨c,b,B,h2,m⟩:=run_append_row (P:=P) (w:=w) t o.type e i z f ht r p g G k base x n d D E h1 C F q
 unfold Oper.wp execOp
 simp only[l,resolve,invoke,builtin,Sem.run_bind,Sem.run_pure,Result.andThen_ok,List.map_toArray,q121,q122,A,j,B]
 exact h c b h2 m
theorem zad {g:Array Oper} {rest:List Oper} {o:Oper} {a:Act} {Q:Exit→Act→World→Prop}(p:o.guard=none)(s y:Operand)(t:TypeId)
  (m:o.op=.call { callee:=.builtin .append,args:=#[s,y],argTypes:=#[t,t] })
  (base:Nat) (e:TypeId) (i:TypeInfo) (z:Value) (f:Nat) (ht:P.underlying t=some (.slice e)) (B:P.info? e=some i) (r:i.zero=some z)
  (j:i.size=1) (I:i.bytes=f) (l:z.cells.size=1)
  (x:Value) (n:Nat) (d:List Value) (C:a.eval s=x) (F:w.ownsRow base e 1 x n d)
  (k:a.eval y=v) (G:Row1 w v vs) (h1:∀u∈vs,u.oneCell'=true)
  (E:n+vs.length≤maxLen) (H:(n+vs.length)*f≤140737488355328) (A:base≤w.heap.size)
  (h:∀c b,b.ownsRow base e 1 c (n+vs.length) (d++vs)→w.grownBy b x.ownBlock→wpList P g Q rest (a.put o.dst c) b):wpList P g Q (o::rest) a w:=
 wpList_plain p fun _ D=>zbe s y t m base e i z f ht B r j I l x n d C F k G h1 E H A fun c b h2 q=>D _ _ (h c b h2 q)
theorem Row1.made(w:World)(c:Array Value)(e:TypeId)(n m:Nat)(l:List Value)(b:w.heap.size=n)(d:c.toList=l)(f:l.length=m)(a:m≤maxLen):Row1 (w.alloc (.cells c e)) (.slice (some ⟨n,0,none⟩) m m) l:=by
 subst b;subst f;subst d
 refine⟨_,_,rfl,q101 _,a,(fun e=>by cases e),fun _=>⟨w.heap.size,0,rfl,by simp,fun i g=>?_⟩⟩
 rw[q111,World.cell?_alloc_at _ _ _ _ rfl]
 simp
theorem zbi {base:Nat} {e:TypeId} {size n:Nat} {b:List Value} {x:Value}(h:w.ownsRow base e size x n b)(j:Below w.heap.size w w'):w'.ownsRow base e size x n b:=by
 obtain⟨h1,h2⟩:=h
 refine⟨h1,?_⟩
 rcases h2 with h2|⟨g,c,f,i,l,a,k⟩
 ·exact Or.inl h2
 refine Or.inr ⟨g,c,f,i,l,?_,k⟩
 have d:g<w.heap.size:=by
  rcases q108 g w.heap.size with h|h
  ·exact h
  rw[Array.getElem?_eq_none h]at a;cases a
 rw[j.block g d,a]
theorem zce {base b:Nat} {e:TypeId} {size n:Nat} {a:List Value} {x:Value}(h:w.ownsRow base e size x n a)(j:b≤base):w.ownsRow b e size x n a:=by
 obtain⟨h1,h2⟩:=h
 refine⟨h1,?_⟩
 rcases h2 with h2|⟨g,c,d,i,k,f⟩
 ·exact Or.inl h2
 exact Or.inr ⟨g,c,d,i,q118 j k,f⟩
def Blk(w:World)(c:Nat)(cs:List Value)(t:TypeId):Prop:=w.heap[c]? =some (.cells cs.toArray t (0,0))
theorem Blk.cell {c:Nat} {a:List Value} {t:TypeId}(h:Blk w c a t)(i:Nat):w.cell? ⟨c,i,none⟩=a[i]? :=by
 unfold Blk at h
 simp[World.cell?,h]
theorem Blk.free {c:Nat} {a:List Value} {t:TypeId}(h:Blk w c a t)(i:Nat):w.frozen? ⟨c,i,none⟩=false:=by
 unfold Blk at h
 simp[World.frozen?,h]
theorem Blk.lt {c:Nat} {a:List Value} {t:TypeId}(h:Blk w c a t):c<w.heap.size:=lt_of_block h
theorem Blk.set {c:Nat} {a:List Value} {t:TypeId}(h:Blk w c a t)(i:Nat)(u:Value):Blk (w.setCell ⟨c,i,none⟩ u) c (a.set i u) t:=by
 have:=heap_setCell_same w c i a.toArray t u h
 unfold Blk
 rw[this]
 simp
theorem Blk.same {c:Nat} {a:List Value} {t:TypeId}(h:Blk w c a t)(b:w'.heap[c]? =w.heap[c]?):Blk w' c a t:=b.trans h
theorem Blk.drewN {c:Nat} {a:List Value} {t:TypeId}(h:Blk w c a t)(n:Nat):Blk (w.drewN n) c a t:=h
theorem Blk.grown {c:Nat} {a:List Value} {t:TypeId} {row:Option Nat}(h:Blk w c a t)(d:w.grownBy w' row)(b:row≠some c):Blk w' c a t:=
 h.same (d.block c h.lt (fun e=>b e.symm))
theorem Blk.made(w:World)(a:List Value)(t:TypeId):Blk (w.alloc (.cells a.toArray t)) w.heap.size a t:=heap_alloc_new w _
theorem grownBy_trans {a b d:World} {row:Option Nat}(h:a.grownBy b row)(g:b.grownBy d row):a.grownBy d row:=
 ⟨g.os.trans h.os,g.tape.trans h.tape,g.output.trans h.output,q118 h.size g.size,fun k e c=>(g.block k (q109 e h.size) c).trans (h.block k e c)⟩
theorem grownBy_of_none {a b:World} {row:Option Nat}(h:a.grownBy b none):a.grownBy b row:=
 ⟨h.os,h.tape,h.output,h.size,fun k c _=>h.block k c (by simp)⟩
theorem zaz {a b:World} {c:Nat}(h:a.grownBy b (some c))(i:Nat)(u:Value):a.grownBy (b.setCell ⟨c,i,none⟩ u) (some c):=
 ⟨h.os,h.tape,h.output,by simpa[World.setCell]using h.size,fun k f d=>(heap_setCell_other b ⟨c,i,none⟩ k u (fun e=>d (by rw[e]))).trans (h.block k f d)⟩
theorem zbs {a b:World} {row:Option Nat}(h:a.grownBy b row)(n:Nat):a.grownBy (b.drewN n) row:=⟨h.os,h.tape,h.output,h.size,h.block⟩
theorem zbc(a:World)(row:Option Nat):a.grownBy a row:=World.grownBy.refl a row
theorem Row1.sliced {ad:Addr} {len b:Nat}(h:Row1 w (.slice (some ad) len b) vs)(i n:Nat)(t:i+n≤vs.length):Row1 w (.slice (some (ad.add i)) n (b - i)) ((vs.drop i).take n):=by
 obtain⟨a,s,e,h1,h2,r,g⟩:=h
 cases e
 have c:((vs.drop i).take n).length=n:=by simp;omega
 refine⟨some (ad.add i),b - i,by rw[c],by rw[c];omega,by omega,(fun e=>by cases e),fun j=>?_⟩
 have f:vs≠[]:=by intro e;subst e;simp at j
 obtain⟨l,q,e,m,p⟩:=g f
 cases e
 refine⟨l,q+i,by rw[WideShapes.add_plain],m,fun k d=>?_⟩
 rw[c]at d
 rw[Nat.add_assoc,p (i+k) (by omega),List.getElem?_take,if_pos d,List.getElem?_drop]
theorem Row1.empty(w:World)(ad:Addr)(a:Nat)(b:a≤maxLen):Row1 w (.slice (some ad) 0 a) []:=
 ⟨some ad,a,rfl,Nat.zero_le _,b,(fun e=>by cases e),fun h=>absurd rfl h⟩
def bval(b:UInt8):Value:=.int .u8 (b.toNat:Int)
theorem zac(l:List UInt8):∀u∈l.map bval,u.oneCell'=true:=by
 intro u a
 obtain⟨c,_,rfl⟩:=List.mem_map.1 a
 rfl
theorem foldl_bytes:∀(l:List UInt8) (s:ByteArray),((l.map fun b=>(b.toNat:Int)).foldl (fun r n=>r.push (UInt8.ofNat n.toNat)) s).data=s.data++l.toArray
 |[],s=>by simp
 |b::l,s=>by
  simp only[q121,List.foldl_cons]
  rw[foldl_bytes l]
  simp[ByteArray.push]
def RowB(w:World)(v:Value)(ls:List (List UInt8)):Prop:=
 ∃vals:List Value,Row1 w v vals∧vals.length=ls.length∧∀(i:Nat) (x:Value) (l:List UInt8),vals[i]? =some x→ls[i]? =some l→Row1 w x (l.map bval)
theorem RowB.below {a:List (List UInt8)}(h:RowB w v a)(b:Below w.heap.size w w'):RowB w' v a:=by
 obtain⟨e,h1,h2,c⟩:=h
 exact⟨e,h1.below b,h2,fun i x l d f=>(c i x l d f).below b⟩
theorem run_string_row(d f e:TypeId)(s:P.underlying d=some (.slice e))(g:P.underlying e=some (.int .u8))(y:P.underlying f=some .string) {l:List UInt8}(h:Row1 w v (l.map bval)):
  (convert d f v).run P w=.ok (.string ⟨l.toArray⟩) w:=by
 obtain⟨a,i,rfl,A,B,m,q⟩:=h
 rw[run_convert_bytes_string w d f e a _ i s g y]
 cases a with
 |none=>
  have z:=m rfl
  have:l=[]:=by
   have:(l.map bval).length=0:=by omega
   exact q131 (by simpa using this)
  subst this
  rfl
 |some ad=>
  have p:(loadCells ad (l.map bval).length).run P w=.ok ((l.map fun b=>(b.toNat:Int)).map (Value.int .u8)).toArray w:=by
   rw[show (l.map fun b=>(b.toNat:Int)).map (Value.int .u8)=l.map bval from by simp[bval,Function.comp_def]]
   have:=run_loadCells_list (P:=P) (w:=w) ad (l.map bval) (fun j u c=>by
    have t:l.map bval≠[]:=by intro e;rw[e]at c;simp at c
    obtain⟨b,off,g,C,x⟩:=q t
    cases g
    have k:j<(l.map bval).length:=by
     rcases q108 j (l.map bval).length with h|h
     ·exact h
     rw[List.getElem?_eq_none h]at c;cases c
    rw[WideShapes.add_plain,x j k,c])
   exact this
  rw[run_bytesToString w ad _ i _ p]
  congr 2
  have:=foldl_bytes l ByteArray.empty
  generalize (List.foldl (fun r n=>r.push (UInt8.ofNat n.toNat)) ByteArray.empty (l.map fun b=>(b.toNat:Int)))=r at this⊢
  cases r
  simpa using this
end
end
section
open Go.ChangeShapes Go.WideShapes Go.ChangeAt Go.RowKit
theorem trodAll_len {H:Type} {enc:TypeId×Value→H} {P:Program} {w:World} {base:Nat} {i:Nat→Bool} {k:Bool}:
  ∀{c:List TypeId} {j:List Value} {e:List (DataW H)} {g:List MemPlace},DataW.TrodAll enc P w base i k c j e g→e.length=c.length
 |[],_,_,_,h=>by
  obtain⟨rfl,rfl,rfl⟩:=trodAll_nil h
  rfl
 |_::_,_,_,_,h=>by
  obtain⟨v,n,d,l,a,b,rfl,rfl,rfl,m,f⟩:=trodAll_cons h
  simp[trodAll_len f]
theorem trodAll_stays {H:Type} {enc:TypeId×Value→H} {P:Program}(l:laidOutB P=true) {W j:World} {base:Nat} {i:Nat→Bool}:
  ∀{f:List TypeId} {g:List Value} {k:List (DataW H)} {e:List MemPlace},(f.all fun t=>P.readableRec t && decide (t<P.types.size))=true→
  DataW.TrodAll enc P W base (fun _=>true) true f g k e→(∀p∈e,W.sameAt j p)→(∀p∈e,i p.block=true)→DataW.TrodAll enc P j base i true f g k e
 |[],_,_,_,_,h,_,_=>by
  obtain⟨rfl,rfl,rfl⟩:=trodAll_nil h
  exact trodAll_mk0
 |t::f,_,_,_,hr,h,h1,h2=>by
  obtain⟨v,x,d,u,a,b,rfl,rfl,rfl,n,m⟩:=trodAll_cons h
  rw[List.all_cons,Bool.and_eq_true,Bool.and_eq_true]at hr
  obtain⟨⟨r,s⟩,q⟩:=hr
  exact⟨a,b,WideElems.Trod_stays l r (of_decide_eq_true s) n (fun p c=>h1 p (List.mem_append_left _ c)) (fun p c=>h2 p (List.mem_append_left _ c)),
   trodAll_stays l q m (fun p c=>h1 p (List.mem_append_right _ c)) (fun p c=>h2 p (List.mem_append_right _ c)),rfl⟩
section
variable {H:Type} {enc:TypeId×Value→H} {P:Program} {W:World} {sp:Nat→Bool}
theorem row1_of_trod {t e:TypeId} {fuel:Nat} {v:Value} {y:DataW H×List MemPlace}(ht:P.underlying t=some (.slice e))(r:P.cellsOf e=1)
  (z:DataW.trod enc P W 0 (fun _=>true) true fuel t [v]=some y):
  ∃k:List Value,Row1 W v k∧∀x∈k,∃n y,DataW.trod enc P W 0 (fun _=>true) true n e [x]=some y:=by
 rcases Deep.open_slice1 ht r z with⟨f,_⟩|⟨g,c,j,m,n,V,D,E,f,F,C,u,s,_,a⟩
 ·obtain rfl:v=.slice none 0 0:=by simpa using f
  exact⟨[],Row1.nil W,fun x a=>by cases a⟩
 obtain rfl:v=.slice (some g) c j:=by simpa using f
 simp only[if_true]at s
 refine⟨(List.range c).map V,⟨some g,j,by simp,by simpa using C,u,(fun e=>by cases e),fun p=>?_⟩,?_⟩
 ·have h0:0<c:=by
   rcases q129 c with h|h
   ·subst h;exact absurd rfl p
   exact h
  obtain⟨b,off,q⟩:=g
  have B:q=none:=by simpa[Addr.add]using World.cell?_spot ((a 0 (by omega)).1)
  subst B
  refine⟨b,off,rfl,?_,fun i d=>?_⟩
  ·have:=(a 0 (by omega)).1
   exact q135 W _ this
  have l:i<c:=by simpa using d
  rw[←add_plain,(a i (by omega)).1]
  simp[l]
 intro x A
 obtain⟨i,d,rfl⟩:=List.mem_map.1 A
 have l:i<c:=by simpa using d
 exact⟨n,_,(a i (by omega)).2⟩
theorem cell_int {e:TypeId} {k:IntKind}(a:P.underlying e=some (.int k)) {n:Nat} {x:Value} {y:DataW H×List MemPlace}
  (h:DataW.trod enc P W 0 sp true n e [x]=some y):∃b,x=.int k b∧(Lit.int k b).wf=true:=by
 cases n with
 |zero=>simp[DataW.trod]at h
 |succ n=>
  unfold DataW.trod at h
  rw[a]at h
  cases x<;>simp at h
  rename_i c b
  obtain⟨⟨rfl,h2⟩,_⟩:=h
  exact⟨b,rfl,h2⟩
theorem list_of_all {α:Type} {f:α→Value} {p:α→Prop}:∀{c:List Value},(∀x∈c,∃a,x=f a∧p a)→∃l:List α,c=l.map f∧∀a∈l,p a
 |[],_=>⟨[],rfl,fun a h=>by cases h⟩
 |v::c,h=>by
  obtain⟨a,rfl,g⟩:=h v (List.mem_cons_self ..)
  obtain⟨l,rfl,i⟩:=list_of_all (fun x e=>h x (q136 _ e))
  exact⟨a::l,rfl,fun b d=>by
   rcases List.mem_cons.1 d with rfl|d
   ·exact g
   exact i b d⟩
theorem bytes_of_trod {t e:TypeId} {fuel:Nat} {v:Value} {y:DataW H×List MemPlace}(ht:P.underlying t=some (.slice e))(i:P.underlying e=some (.int .u8))(g:P.cellsOf e=1)
  (d:DataW.trod enc P W 0 (fun _=>true) true fuel t [v]=some y):∃l:List UInt8,Row1 W v (l.map bval):=by
 obtain⟨k,h1,h2⟩:=row1_of_trod ht g d
 obtain⟨l,rfl,_⟩:=list_of_all (f:=bval) (p:=fun _=>True) (fun x c=>by
  obtain⟨n,y,h⟩:=h2 x c
  obtain⟨b,rfl,a⟩:=cell_int i h
  have j:0≤b∧b≤255:=by simpa[Lit.wf,IntKind.min,IntKind.max,IntKind.signed,IntKind.bits]using a
  refine⟨UInt8.ofNat b.toNat,?_,trivial⟩
  unfold bval
  congr 1
  rw[UInt8.toNat_ofNat']
  omega)
 exact⟨l,h1⟩
theorem open_bytes {f:Nat} {r:Reach} {t e:TypeId} {v:Value} {d:DataW H} {b:List MemPlace}(ht:P.underlying t=some (.slice e))(j:P.underlying e=some (.int .u8))(i:P.cellsOf e=1)
  (c:Value.okWide P W r f t v) (h:DataW.Trod enc P W 0 (fun _=>true) true t v d b):∃l:List UInt8,Row1 W v (l.map bval):=by
 obtain⟨a,len,k,rfl⟩:=okWide_slice ht c
 obtain⟨fuel,g⟩:=h
 exact bytes_of_trod (y:=(d,b)) ht j i (by simpa[Value.cells]using g)
end
theorem law_own:ownKnob Tryd.prog.godebug=none:=by kernel_rfl
theorem law_laid:laidOutB Tryd.prog=true:=by kernel_rfl
end
section
section
variable {P:Program} {w w':World}
def laid:List Value→Nat→List Value→List Value
 |cs,_,[]=>cs
 |cs,o,v::r=>laid (cs.set o v) (o+1) r
theorem laid_get:∀(b a:List Value) (o:Nat),o+b.length≤a.length→∀i,(laid a o b)[i]? =if o≤i∧i<o+b.length then b[i - o]? else a[i]?
 |[],a,o,h,i=>by simp[laid];omega
 |v::r,a,o,h,i=>by
  rw[q103]at h
  rw[laid,laid_get r _ _ (by simp;omega)]
  by_cases h1:i=o
  ·subst h1
   rw[if_neg (by omega),if_pos (by simp),List.getElem?_set_self (by omega)]
   simp
  by_cases h2:o+1≤i∧i<o+1+r.length
  ·rw[if_pos h2,if_pos (by rw[q103];omega),show i - o=(i - (o+1))+1 from by omega]
   simp
  rw[if_neg h2,if_neg (by rw[q103];omega),List.getElem?_set_ne (by omega)]
theorem laid_all(b a:List Value)(h:a.length=b.length):laid b 0 a=a:=by
 apply List.ext_getElem?
 intro i
 rw[laid_get _ _ _ (by omega)]
 by_cases c:i<a.length
 ·rw[if_pos (by omega)]
  simp
 rw[if_neg (by omega),List.getElem?_eq_none (by omega),List.getElem?_eq_none (by omega)]
theorem Blk.setCells {c:Nat} {t:TypeId}:∀(b:List Value) (a:List Value) (o:Nat) (w:World),Blk w c a t→Blk (w.setCells c o b) c (laid a o b) t
 |[],_,_,_,h=>h
 |v::r,a,o,w,h=>Blk.setCells r (a.set o v) (o+1) _ (h.set o v)
theorem zbx {c:Nat}:∀(d:List Value) (o:Nat) (a b:World),a.grownBy b (some c)→a.grownBy (b.setCells c o d) (some c)
 |[],_,_,_,h=>h
 |v::r,o,a,b,h=>zbx r (o+1) a _ (zaz h o v)
theorem Blk.there {c:Nat} {a:List Value} {t:TypeId}(h:Blk w c a t)(n:Nat)(d:n≤a.length):w.there c 0 n:=fun j b=>by
 rw[q111]
 refine⟨?_,h.free j⟩
 rw[h.cell j,List.getElem?_eq_getElem (by omega)]
 rfl
theorem Blk.range {c:Nat} {a:List Value} {t:TypeId}(h:Blk w c a t):w.rangeAt c 0 a:=fun j v b=>by
 rw[q111,h.cell j,b]
theorem zar {f:Array Oper} {rest:List Oper} {o:Oper} {a:Act} {Q:Exit→Act→World→Prop}(l:o.guard=none)(d:TypeId)(x:Operand)(m:o.op=.load d x)
  (c:Nat) (i:a.eval x=.pointer (some ⟨c,0,none⟩)) (t:TypeId) (b:List Value) (n:Nat) (e:TypeId) (k:Blk w c b t)
  (g:P.underlying d=some (.array n e)) (j:(P.info? d).map (·.size)=some b.length)
  (h:wpList P f Q rest (a.put o.dst (.agg b.toArray)) w):wpList P f Q (o::rest) a w:=
 wpList_load_mid l d x m c 0 i b _ k.range g rfl j h
theorem zah {g:Array Oper} {rest:List Oper} {o:Oper} {a:Act} {Q:Exit→Act→World→Prop}(m:o.guard=none)(f:TypeId)(x y:Operand)(n:o.op=.store f x y)
  (c:Nat) (b:List Value) (j:a.eval x=.pointer (some ⟨c,0,none⟩)) (p:a.eval y=.agg b.toArray)
  (t:TypeId) (d:List Value) (i:Blk w c d t) (l:b.length=d.length) (k:(P.info? f).map (·.size)=some b.length) (h1:∀v∈b,v.oneCell'=true)
  (h:∀e,Blk e c b t→w.grownBy e (some c)→wpList P g Q rest (a.put o.dst undef) e):wpList P g Q (o::rest) a w:=
 wpList_store_mid m f x y n c 0 b.toArray j p (by simpa using i.there b.length (by omega)) (by simpa using k) (all_oneCell_toArray h1)
  (h _ (by simpa[laid_all d b l]using Blk.setCells b d 0 w i) (zbx _ 0 w w (zbc w _)))
theorem zaq {o:Oper} {a:Act} {K:Act→World→Prop} {Q:Exit→Act→World→Prop}(f:TypeId)(x y:Operand)(k:o.op=.store f x y)
  (c:Nat) (b:List Value) (i:a.eval x=.pointer (some ⟨c,0,none⟩)) (m:a.eval y=.agg b.toArray)
  (t:TypeId) (d:List Value) (g:Blk w c d t) (l:b.length=d.length) (j:(P.info? f).map (·.size)=some b.length) (h1:∀v∈b,v.oneCell'=true)
  (h:∀e,Blk e c b t→w.grownBy e (some c)→K (a.put o.dst undef) e):o.wp P a w K Q:=
 wp_store_mid f x y k c 0 b.toArray i m (by simpa using g.there b.length (by omega)) (by simpa using j) (all_oneCell_toArray h1)
  (h _ (by simpa[laid_all d b l]using Blk.setCells b d 0 w g) (zbx _ 0 w w (zbc w _)))
theorem Blk.below {c:Nat} {a:List Value} {t:TypeId}(h:Blk w c a t)(b:Below w.heap.size w w'):Blk w' c a t:=h.same (b.block _ h.lt)
theorem zat {f:Func} {p:Tmp} {d:TypeId}(h:f.results=#[.cell p d])(b:Array Value)(c:Nat)(t:TypeId)(a:List Value)(n:Nat)(e:TypeId)
  (k:b.getD p undef=.pointer (some ⟨c,0,none⟩)) (j:Blk w c a t) (g:P.underlying d=some (.array n e)) (i:(P.info? d).map (·.size)=some a.length):
  (results f b).run P w=.ok (.agg a.toArray) w:=
 results_cell_row h b w c t a.toArray (0,0) _ k j g rfl (by simpa using i)
theorem Blk.far {c:Nat} {b:List Value} {t:TypeId} {a:Addr}(h:Blk w c b t)(d:a.block≠c)(v:Value):Blk (w.setCell a v) c b t:=
 h.same (heap_setCell_other w a c v (fun e=>d e.symm))
theorem Blk.alloc {c:Nat} {a:List Value} {t:TypeId}(h:Blk w c a t)(o:Obj):Blk (w.alloc o) c a t:=h.same (heap_alloc_old w o h.lt)
theorem boxes2(w:World)(a b:List Value)(s t:TypeId):Blk ((w.alloc (.cells a.toArray s)).alloc (.cells b.toArray t)) w.heap.size a s∧Blk ((w.alloc (.cells a.toArray s)).alloc (.cells b.toArray t)) (w.heap.size+1) b t∧
  Below w.heap.size w ((w.alloc (.cells a.toArray s)).alloc (.cells b.toArray t)):=by
 refine⟨(Blk.made w a s).alloc _,?_,((Below.refl _ _).alloc (q101 _) _).alloc (by simp) _⟩
 have:=Blk.made (w.alloc (.cells a.toArray s)) b t
 simpa using this
theorem boxes3(w:World)(a b c:List Value)(s t u:TypeId):Blk (((w.alloc (.cells a.toArray s)).alloc (.cells b.toArray t)).alloc (.cells c.toArray u)) w.heap.size a s∧Blk (((w.alloc (.cells a.toArray s)).alloc (.cells b.toArray t)).alloc (.cells c.toArray u)) (w.heap.size+1) b t∧
  Blk (((w.alloc (.cells a.toArray s)).alloc (.cells b.toArray t)).alloc (.cells c.toArray u)) (w.heap.size+1+1) c u∧Below w.heap.size w (((w.alloc (.cells a.toArray s)).alloc (.cells b.toArray t)).alloc (.cells c.toArray u)):=by
 obtain⟨h1,h2,d⟩:=boxes2 w a b s t
 refine⟨h1.alloc _,h2.alloc _,?_,d.alloc (by simp;omega) _⟩
 have:=Blk.made ((w.alloc (.cells a.toArray s)).alloc (.cells b.toArray t)) c u
 simpa using this
theorem boxes4(w:World)(a b c d:List Value)(s t u v:TypeId):Blk ((((w.alloc (.cells a.toArray s)).alloc (.cells b.toArray t)).alloc (.cells c.toArray u)).alloc (.cells d.toArray v)) w.heap.size a s∧Blk ((((w.alloc (.cells a.toArray s)).alloc (.cells b.toArray t)).alloc (.cells c.toArray u)).alloc (.cells d.toArray v)) (w.heap.size+1) b t∧
  Blk ((((w.alloc (.cells a.toArray s)).alloc (.cells b.toArray t)).alloc (.cells c.toArray u)).alloc (.cells d.toArray v)) (w.heap.size+1+1) c u∧Blk ((((w.alloc (.cells a.toArray s)).alloc (.cells b.toArray t)).alloc (.cells c.toArray u)).alloc (.cells d.toArray v)) (w.heap.size+1+1+1) d v∧Below w.heap.size w ((((w.alloc (.cells a.toArray s)).alloc (.cells b.toArray t)).alloc (.cells c.toArray u)).alloc (.cells d.toArray v)):=by
 obtain⟨h1,h2,e,f⟩:=boxes3 w a b c s t u
 refine⟨h1.alloc _,h2.alloc _,e.alloc _,?_,f.alloc (by simp;omega) _⟩
 have:=Blk.made (((w.alloc (.cells a.toArray s)).alloc (.cells b.toArray t)).alloc (.cells c.toArray u)) d v
 simpa using this
def ints(k:IntKind)(zs:List Int):List Value:=zs.map (.int k)
theorem zai(k:IntKind)(zs:List Int):∀v∈ints k zs,v.oneCell'=true:=by
 intro u a
 obtain⟨z,_,rfl⟩:=List.mem_map.1 a
 rfl
theorem zbp(k:IntKind)(zs:List Int)(i:Nat)(z:Int):(ints k zs).set i (.int k z)=ints k (zs.set i z):=by
 unfold ints
 rw[List.map_set]
theorem zav {k:IntKind} {zs:List Int} {i:Nat}(h:i<zs.length):(ints k zs)[i]? =some (.int k (zs.getD i 0)):=by
 simp[ints,List.getD,h]
theorem zaa(k:IntKind)(zs:List Int):(ints k zs).length=zs.length:=by simp[ints]
end
end
section
open Go.ChangeShapes Go.WideShapes Go.ChangeAt Go.WideMaps Go.WideElems Go.RowKit
theorem laid_in {P:Program} {w:World}:∀{laid:List (String×DataW Unit)} {c:List MemPlace} {n:String} {d:DataW Unit},DataW.LaidVars P w laid c→(n,d)∈laid→
  ∃g t b fuel p,P.globalNamed n=some g∧(P.globals[g]?).map (·.type)=some t∧w.var? P n=some b∧DataW.trod (fun _=>()) P w 0 (fun _=>true) false fuel t b.toList=some (d,p)
 |[],_,_,_,_,a=>by cases a
 |(n0,d0)::r,c,n,d,h,a=>by
  obtain⟨g,t,b,fuel,p,q,h1,h2,f,i,j,_⟩:=h
  rcases List.mem_cons.1 a with e|a
  ·cases e
   exact⟨g,t,b,fuel,p,h1,h2,f,i⟩
  exact laid_in j a
theorem zcx {P:Program} {W:World} {L:List (String×DataW Unit)} {n:String} {g len:Nat} {t e:TypeId} {k:IntKind} {zs:List Int} {d:DataW Unit}
  (B:(L.all fun x=>x.2.handleName?.isNone)=true) (h:laidMetH P L W) (H:(n,d)∈L) (D:d=.agg (zs.map fun z=>.lit (.int k z)))
  (N:P.globalNamed n=some g) (ht:(P.globals[g]?).map (·.type)=some t) (F:P.underlying t=some (.array len e)) (J:P.underlying e=some (.int k)) (E:P.cellsOf e=1) (V:zs.length=len):W.rangeAt g 0 (ints k zs):=by
 rw[MakeChecks.laidMetH_plain _ _ _ B]at h
 obtain⟨U,R,_,_⟩:=h
 obtain⟨X,w,K,f0,S,i,G,M,y⟩:=laid_in R H
 obtain rfl:=Option.some.inj (N.symm.trans i)
 obtain rfl:=Option.some.inj (ht.symm.trans G)
 obtain⟨p,m,rfl,f,Z,Y,s⟩:=DataW.trod_array F y
 rw[D]at f
 simp only[Prod.mk.injEq,DataW.agg.injEq]at f
 intro j v b
 have I:j<len:=by
  apply Classical.byContradiction
  intro T
  rw[List.getElem?_eq_none (by rw[zaa];omega)]at b
  cases b
 have h0:=s j I
 rw[E,Nat.mul_one]at h0
 obtain⟨c,r⟩:∃c,p[j]? =some c:=⟨p[j],List.getElem?_eq_getElem (by omega)⟩
 rw[r]at h0
 obtain⟨q,O,Q,_⟩:=DataW.trod_int J h0
 have a:(zs.map fun z=>(DataW.lit (.int k z):DataW Unit))[j]? =some c.1:=by rw[f.1,List.getElem?_map,r];rfl
 rw[Q,List.getElem?_map]at a
 have u:zs[j]? =some q:=by
  cases hr:zs[j]? with
  |none=>rw[hr]at a;cases a
  |some z=>rw[hr]at a;simpa using a
 have C:v=.int k q:=by
  unfold ints at b
  rw[List.getElem?_map,u]at b
  simpa using b.symm
 have A:K.toList[j]? =some (.int k q):=by
  have:=congrArg (fun l:List Value=>l[0]?) O
  simpa[List.getElem?_take,List.getElem?_drop]using this
 have:=World.var?_cell i M j
 rw[q111,this,C]
 simpa using A
def LawWalkG(G:World→Prop) {H:Type}(enc:TypeId×Value→H)(P:Program)(f:FuncId)(ts:List TypeId):Prop:=
 ∀(W:World) (base:Nat) (args:Array Value) (ds:List (DataW H)) (ps:List MemPlace),
  (∀(j:Nat) (t:TypeId) (v:Value),ts[j]? =some t→args[j]? =some v→Value.okWide P W .any base t v)→
  DataW.TrodAll enc P W 0 (fun _=>true) true ts args.toList ds ps→(∀x∈ps,x.block<W.heap.size)→W.noneFrozen ps→G W→
  Calls P f args W fun e w'=>e=.returned (.bool true)∧Below W.heap.size W w'
theorem law_lift_tied {G:World→Prop} {H:Type} {enc:TypeId×Value→H} {C:Checked} {os:Os} {f:FuncId} {a:Func} {s:ChangeSpec} {u:TypeId}(L:List (String×DataW Unit))
  (own:ownKnob C.prog.godebug=none) (laid:laidOutB C.prog=true) (S:os.Started)
  (F:C.prog.inits.idxOf? f=none) (N:C.prog.funcs[f]? =some a) (r:s.vars=[])
  (A:(a.params.toList.all fun t=>C.prog.readableRec t && decide (t<C.prog.types.size))=true)
  (E:a.resultTypes=#[u]) (U:C.prog.underlying u=some .bool)
  (O:∀b:List (DataW H),b.length=a.params.toList.length→(s.fn H b).results=[.lit (.bool true)]∧(s.fn H b).args=b∧(s.fn H b).vars=[])
  (B:∃(w:World) (tape:Tape) (i:Input),w.os=os∧(w.forCall tape i).Shaped C.prog∧i.vars=[]∧Input.okWide C.prog (w.forCall tape i) .any w.heap.size f i∧
   ((s.pre enc C.prog a [] false (w.forCall tape i).memory i.args∧laidMetH C.prog L (w.forCall tape i).memory)∧sizedMet enc C.prog a (OpenSpec.ofChange s) false (w.forCall tape i).memory i.args)∧({}:Assume).holds C.prog (lone (Frame.enter C.prog f i.args .normal) [] (w.forCall tape i)))
  (M:∀W,laidMetH C.prog L W→G W) (J:LawWalkG G enc C.prog f a.params.toList):
  ReturnsInHanded {} C os f .any (fun w args=>(s.pre enc C.prog a [] false w args∧laidMetH C.prog L w)∧sizedMet enc C.prog a (OpenSpec.ofChange s) false w args) (s.post enc C.prog a false true false false):=by
 refine returnsInHanded_of_change_and (C:=C) (X:=fun w _=>laidMetH C.prog L w) (fun _ _ _ K h=>h.of_heap K) own S F N B ?_
 intro W base args b Z a0 I k _ _ P _
 have y:=k
 have c:=k.lt
 obtain⟨p,q,g,m,rfl,n,Y⟩:=k
 rw[r]at m
 obtain⟨rfl,rfl⟩:=trodVars_none m
 rw[q123]at c n
 have Q:=trodAll_len g
 obtain⟨T,V,z⟩:=O b Q
 refine(J W base args b p (fun j t v D R=>I j t v (by rw[←Array.getElem?_toList];exact D) R) g c n (M W P)).mono ?_
 rintro e w' ⟨rfl,l⟩
 refine⟨_,rfl,b,[],p++[],[],p,[],y,?_,?_,?_,?_,?_⟩
 ·rw[q123,T,E]
  exact trodAll_mk1 (shut_bool U _)
 ·rw[q123,V]
  exact trodAll_stays laid A g (fun x d=>l.same (c x d)) (fun x d=>by simpa using c x d)
 ·rw[r,q123,z]
  rfl
 ·exact l.frame _
 intro h
 cases h
end
section
open Go.ChangeShapes Go.WideShapes Go.ChangeAt Go.RowKit
section
variable {H:Type} {enc:TypeId×Value→H} {P:Program} {W:World}
theorem byte_of {b:Int}(h:(Lit.int .u8 b).wf=true):∃n:UInt8,b=(n.toNat:Int):=by
 have a:0≤b∧b≤255:=by simpa[Lit.wf,IntKind.min,IntKind.max,IntKind.signed,IntKind.bits]using h
 refine⟨UInt8.ofNat b.toNat,?_⟩
 rw[UInt8.toNat_ofNat']
 omega
theorem bytes_of_ints:∀{zs:List Int},(∀n∈zs,(Lit.int .u8 n).wf=true)→∃l:List UInt8,zs.map (Value.int .u8)=l.map bval
 |[],_=>⟨[],rfl⟩
 |z::r,h=>by
  obtain⟨n,a⟩:=byte_of (h z (List.mem_cons_self ..))
  obtain⟨l,c⟩:=bytes_of_ints (zs:=r) (fun x b=>h x (q136 _ b))
  exact⟨n::l,by simp only[q121,c,a];rfl⟩
end
end
section
def Ext(w w':World):Prop:=Below w.heap.size w w'
theorem Ext.refl(w:World):Ext w w:=Below.refl _ w
theorem Ext.trans {a b c:World}(h:Ext a b)(g:Ext b c):Ext a c:=Below.trans h (Below.mono g h.size)
theorem Ext.drew(w:World):Ext w w.drew:=(Below.refl _ w).drew
theorem Ext.alloc(w:World)(o:Obj):Ext w (w.alloc o):=(Below.refl _ w).alloc (q101 _) o
section
variable {P:Program} {ops:Array Oper} {Q:Exit→Act→World→Prop} {md:Region.Mode} {t:Nat}
def doneB(t:Nat)(listed:Array Bool):Bool:=(List.range t).all fun k=>listed.getD k true
def wpAnyB(P:Program)(md:Region.Mode)(ops:Array Oper)(Q:Exit→Act→World→Prop)(t:Nat):Nat→Array Bool→Act→World→Prop
 |0,listed,a,w=>∀w',Ext w w'→wpAny P md ops Q 0 listed a w'
 |fuel+1,listed,a,w=>
  (doneB t listed=true→∀w',Ext w w'→wpAny P md ops Q (fuel+1) listed a w')∧
  (doneB t listed=false→∀w',Ext w w'→Region.ready md ops listed≠[]∧
   ∀i∈Region.ready md ops listed,wpOp P ops Q i (fun a' w''=>Ext w' w''∧wpAnyB P md ops Q t fuel (listed.setIfInBounds i true) a' w'') a w')
theorem wpAnyB_up:∀{fuel:Nat} {d:Array Bool} {a:Act} {w e:World},Ext w e→wpAnyB P md ops Q t fuel d a w→wpAnyB P md ops Q t fuel d a e
 |0,_,_,_,_,hw,h=>fun b h2=>h b (hw.trans h2)
 |_+1,_,_,_,_,hw,h=>⟨fun c b h2=>h.1 c b (hw.trans h2),fun c b h2=>h.2 c b (hw.trans h2)⟩
theorem wpAny_of_B:∀(fuel:Nat) {b:Array Bool} {a:Act} {w:World},wpAnyB P md ops Q t fuel b a w→wpAny P md ops Q fuel b a w
 |0,_,_,w,h=>h w (Ext.refl w)
 |fuel+1,b,_,w,h=>by
  cases hd:doneB t b with
  |true=>exact h.1 hd w (Ext.refl w)
  |false=>
   obtain⟨h1,h2⟩:=h.2 hd w (Ext.refl w)
   exact⟨fun h0=>absurd h0 h1,fun i d=>wpOp_mono (fun a' e c=>wpAny_of_B fuel c.2) (h2 i d)⟩
def YieldsB(P:Program)(ops:Array Oper)(C:World→Prop)(o:Oper)(v:Value)(a:Act):Prop:=
 (Region.wanted o (yielded ops a.tmps)=true∧∀w,C w→o.quietAt P a (Ext w) w v)∨(Region.wanted o (yielded ops a.tmps)=false∧v=undef)
variable {C:World→Prop}
theorem YieldsB.of_same {o:Oper} {v:Value} {a a':Act}(e:YieldsB P ops C o v a)(c:execOp a'.eval o=execOp a.eval o)
  (b:Region.wanted o (yielded ops a'.tmps)=Region.wanted o (yielded ops a.tmps)):YieldsB P ops C o v a':=by
 rcases e with⟨h1,h2⟩|⟨h1,h2⟩
 ·exact Or.inl ⟨b.trans h1,fun w d=>by have:=h2 w d;unfold Oper.quietAt at*;rwa [c]⟩
 exact Or.inr ⟨b.trans h1,h2⟩
theorem YieldsB.wpOp {i:Nat} {o:Oper} {v:Value} {a:Act}(l:ops[i]? =some o)(q:YieldsB P ops C o v a) {K:Act→World→Prop} {w:World}(p:C w)
  (h:∀d,Ext w d→K (a.put o.dst v) d):wpOp P ops Q i K a w:=by
 unfold Go.wpOp
 simp only[l]
 rcases q with⟨g,k⟩|⟨g,rfl⟩
 ·rw[if_pos g]
  left
  have b:=k w p
  unfold Oper.quietAt at b
  unfold Oper.wp
  generalize (execOp a.eval o).run P w=r at*
  cases r with
  |halt x d=>exact b.elim
  |ok n d=>
   cases n<;>simp only[Oper.quietUpon]at b<;>simp only[Oper.upon]
   case value u=>
    obtain⟨c,j⟩:=b
    rw[c,j]
    exact h _ (Ext.refl _)
   case skip=>
    obtain⟨c,j⟩:=b
    rw[c,←j]
    exact h _ (Ext.refl _)
   case enter f args=>
    obtain⟨c,m⟩:=b
    rw[c]
    exact m.mono fun e w'' ⟨he,hw''⟩=>by subst he;exact h _ hw''
 rw[if_neg (by simp[g])]
 exact h _ (Ext.refl _)
theorem wpOp_keep {j:Nat} {i:Oper} {Y:Act→Prop} {K:Act→World→Prop} {a:Act} {w:World}(p:ops[j]? =some i)(b:∀u,Y (a.put i.dst u))
  (q:∀d,Y ({ a with defers:=d::a.defers }.put i.dst undef)) (h:wpOp P ops Q j K a w):wpOp P ops Q j (fun a' l=>Y a'∧K a' l) a w:=by
 unfold wpOp at*
 simp only[p]at*
 split
 ·rename_i k
  simp only[k,if_true]at h
  rcases h with h|h
  ·left
   unfold Oper.wp at*
   generalize (execOp a.eval i).run P w=r at*
   cases r with
   |halt x l=>cases x<;>simp only[Oper.upon]at h⊢<;>exact h
   |ok n l=>
    cases n<;>simp only[Oper.upon]at h⊢
    case value u=>exact⟨b u,h⟩
    case skip=>exact⟨b _,h⟩
    case defer d=>exact⟨q d,h⟩
    case enter f args=>
     refine Calls.mono h fun e m g=>?_
     cases e with
     |returned u=>exact⟨b u,g⟩
     |panicked c=>exact g
     |outgrown=>exact g
    case row r args2=>exact Rows.mono h fun u m g=>⟨b u,g⟩
  exact Or.inr h
 rename_i k
 simp only[k]at h
 exact⟨b _,h⟩
theorem wpAnyB_first {i:Nat} {f:Oper} {v:Value}(B:ops[i]? =some f)(X:i<t)(K:∀(j:Nat) (o:Oper) n b,ops[j]? =some o→o.op≠ .select n b)
  (hQ:∀d v c a w,Q (.panic c) (Act.put a d v) w→Q (.panic c) a w) (r:Array Bool) (ae:r.size=ops.size) (a4:∀j∈Region.ready md ops r,j=i) (ad:∀k,t≤k→r.getD k false=false):
  ∀(fuel:Nat) (l:Array Bool) (a:Act) (w:World),
   (∀j g,ops[j]? =some g→j≠i→l.getD j true=false→(∀e∈g.after,Region.binds md e=true→e.on≠i)→f.apart ops g=true)→
   i∈Region.ready md ops l→(∀k,l.getD k false=true→r.getD k false=true)→YieldsB P ops C f v a→(∀q,Ext w q→C q)→
   wpAnyB P md ops Q t fuel (l.setIfInBounds i true) (a.put f.dst v) w→wpAnyB P md ops Q t (fuel+1) l a w:=by
 intro fuel
 induction fuel with
 |zero=>
  intro l a w O x U y F H
  have A:=(mem_ready.1 x).1
  have L:doneB t l=false:=by
   unfold doneB
   rw[List.all_eq_false]
   exact⟨i,List.mem_range.2 X,by rw[A];simp⟩
  refine⟨fun h=>(by rw[L]at h;cases h),fun _ q p=>⟨List.ne_nil_of_mem x,fun j E=>?_⟩⟩
  by_cases m:j=i
  ·subst m
   exact y.wpOp B (F q p) (fun N D=>⟨D,wpAnyB_up (p.trans D) H⟩)
  have h0:=(H q p).1
  have:=ready_mono E m
  rw[h0]at this
  cases this
 |succ fuel ih=>
  intro l a w O x U y F H
  have A:=(mem_ready.1 x).1
  have L:doneB t l=false:=by
   unfold doneB
   rw[List.all_eq_false]
   exact⟨i,List.mem_range.2 X,by rw[A];simp⟩
  refine⟨fun h=>(by rw[L]at h;cases h),fun _ q p=>⟨List.ne_nil_of_mem x,fun j E=>?_⟩⟩
  by_cases m:j=i
  ·subst m
   exact y.wpOp B (F q p) (fun N D=>⟨D,wpAnyB_up (p.trans D) H⟩)
  obtain⟨S,g,s,W⟩:=mem_ready.1 E
  have af:j<ops.size:=(Array.getElem?_eq_some_iff.1 s).1
  have R:r.getD j false=true:=by
   cases hc:r.getD j false with
   |true=>rfl
   |false=>
    refine absurd (a4 j (mem_ready.2 ⟨?_,g,s,fun e T V=>U _ (W e T V)⟩)) m
    have a7:j<r.size:=by omega
    simpa[Array.getD,a7]using hc
  have a5:j<t:=by
   rcases q108 j t with h|h
   ·exact h
   rw[ad j h]at R;cases R
  cases hd:doneB t (l.setIfInBounds i true)with
  |true=>
   unfold doneB at hd
   have:=(List.all_eq_true.1 hd) j (List.mem_range.2 a5)
   rw[getD_set_ne true (Ne.symm m),S]at this
   cases this
  |false=>
   have h1:=((H.2 hd) q p).2 j (ready_mono E m)
   have a6:∀e∈g.after,Region.binds md e=true→e.on≠i:=fun e T V a8=>by
    have h2:=W e T V
    rw[a8]at h2
    rcases q108 i l.size with M|M
    ·simp[M]at A h2;rw[A]at h2;cases h2
    simp[Array.getElem?_eq_none M]at h2
   have Z:=O j g s m S a6
   obtain⟨a1,a2,G⟩:=Oper.apart_spec Z
   have aa:YieldsIf P ops (fun _=>False) f v a:=y.imp (fun h=>⟨h.1,fun _ h=>h.elim⟩) id
   have h2:=wpOp_putIf s Z (fun n b=>K i f n b B) (fun n b=>K j g n b s) (fun c a w h=>hQ _ _ c a w h) aa h1
   have keep:∀u,YieldsB P ops C f v (a.put g.dst u):=fun u=>y.of_same (execOp_put f (fun n b=>K i f n b B) a g.dst u G) (wanted_put f a g.dst u G)
   have ac:∀d,YieldsB P ops C f v ({ a with defers:=d::a.defers }.put g.dst undef):=fun d=>
    (y.of_same (a':={ a with defers:=d::a.defers }) rfl rfl).of_same (execOp_put f (fun n b=>K i f n b B) _ g.dst undef G) (wanted_put f _ g.dst undef G)
   have h3:=wpOp_keep (Y:=YieldsB P ops C f v) s keep ac h2
   refine wpOp_mono (fun a' N J=>⟨J.2.2.1,ih (l.setIfInBounds j true) a' N ?_ (ready_mono x (Ne.symm m)) ?_ J.1 (fun w3 h5=>F w3 ((p.trans J.2.2.1).trans h5)) ?_⟩) h3
   ·intro k ok I a0 a9 ab
    refine O k ok I a0 ?_ ab
    by_cases z:j=k
    ·subst z;exact S
    rwa [getD_set_ne true z]at a9
   ·intro k I
    by_cases z:j=k
    ·subst z;exact R
    rw[getD_set_ne false z]at I
    exact U k I
   rw[Array.setIfInBounds_comm _ _ m]
   exact J.2.2.2
def closeB(md:Region.Mode)(ops:Array Oper)(i:Nat)(listed:Array Bool):Array Bool:=
 (List.range ops.size).foldl (fun c j=>if j==i||c.getD j true then c else if ((ops[j]?).map (·.after.all fun e=>!Region.binds md e||c.getD e.on false)).getD false then c.setIfInBounds j true else c) listed
def detB(md:Region.Mode)(ops:Array Oper)(t:Nat):Nat→Nat→Array Bool→Bool
 |0,_,_=>true
 |d+1,k,listed=>
  let cl:=closeB md ops k listed
  (Region.ready md ops listed).contains k && Region.free md ops listed k && Nat.blt k t && (cl.size==ops.size) && (Region.ready md ops cl).all (·==k) && (List.range cl.size).all (fun j=>Nat.blt j t||!cl.getD j false) && (List.range listed.size).all (fun j=>!listed.getD j false||cl.getD j false) &&
   detB md ops t d (k+1) (listed.setIfInBounds k true)
def wpDet(P:Program)(ops:Array Oper)(C:World→Prop)(Q:Act→Prop):List Oper→Act→Prop
 |[],a=>Q a
 |o::rest,a=>(Region.wanted o (yielded ops a.tmps)=true→∃v,(∀w,C w→o.quietAt P a (Ext w) w v)∧wpDet P ops C Q rest (a.put o.dst v))∧(Region.wanted o (yielded ops a.tmps)=false→wpDet P ops C Q rest (a.put o.dst undef))
def listN:Nat→Nat→Array Bool→Array Bool
 |0,_,l=>l
 |d+1,k,l=>listN d (k+1) (l.setIfInBounds k true)
theorem wpAnyB_lex(n:Region.noSelect ops=true)(p:∀d v c a w,Q (.panic c) (Act.put a d v) w→Q (.panic c) a w)(m:Nat):∀(l:List Oper) (k:Nat) (b:Array Bool) (a:Act) (w:World),(∀j,j<l.length→l[j]? =ops[k+j]?)→
  detB md ops t l.length k b=true→(∀i,Ext w i→C i)→wpDet P ops C (fun a'=>wpAnyB P md ops Q t m (listN l.length k b) a' w) l a→wpAnyB P md ops Q t (l.length+m) b a w
 |[],_,_,_,_,_,_,_,h=>by simpa[wpDet,listN]using h
 |o::l,k,b,a,w,hl,hB,hC,h=>by
  have h0:ops[k]? =some o:=by simpa using(hl 0 (by simp)).symm
  simp only[q103,detB,Bool.and_eq_true]at hB
  obtain⟨⟨⟨⟨⟨⟨⟨A,x⟩,r⟩,z⟩,u⟩,B⟩,q⟩,s⟩:=hB
  have g:∃v,YieldsB P ops C o v a∧wpDet P ops C (fun a'=>wpAnyB P md ops Q t m (listN l.length (k+1) (b.setIfInBounds k true)) a' w) l (a.put o.dst v):=by
   cases hw:Region.wanted o (yielded ops a.tmps)with
   |true=>
    obtain⟨v,h1,h2⟩:=h.1 hw
    exact⟨v,Or.inl ⟨hw,h1⟩,h2⟩
   |false=>exact⟨undef,Or.inr ⟨hw,rfl⟩,h.2 hw⟩
  obtain⟨v,g,y⟩:=g
  rw[q103,Nat.add_right_comm]
  have D:(closeB md ops k b).size=ops.size:=by simpa using z
  refine wpAnyB_first h0 (by simpa using r) (Region.noSelect_spec n) p (closeB md ops k b) D (fun j f=>by simpa using(List.all_eq_true.1 u) j f) (fun j f=>?_) (l.length+m) b a w (Region.free_spec h0 x) (by simpa using A) (fun j f=>?_) g hC
   (wpAnyB_lex n p m l (k+1) _ _ w (fun j f=>by have:=hl (j+1) (by simp;omega);simpa[Nat.add_assoc,Nat.add_comm 1 j]using this) s hC y)
  ·rcases q108 j (closeB md ops k b).size with e|e
   ·have:=(List.all_eq_true.1 B) j (List.mem_range.2 e)
    simp at this
    rcases this with h2|h2
    ·omega
    simpa[Array.getD,e]using h2
   simp[Array.getD,Nat.not_lt.2 e]
  rcases q108 j b.size with e|e
  ·have:=(List.all_eq_true.1 q) j (List.mem_range.2 e)
   simp only[Bool.or_eq_true,Bool.not_eq_true']at this
   rcases this with h2|h2
   ·rw[f]at h2;cases h2
   exact h2
  simp[Array.getD,Nat.not_lt.2 e]at f
theorem wp_region_from {id:Nat} {a:Act} {w:World}(d m t:Nat)(l:ops.size=d+m)(f:P.follows .mixedOrders=true)(g:Region.noSelect ops=true)
  (k:∀d v c a w,Q (.panic c) (Act.put a d v) w→Q (.panic c) a w) (n:detB .any ops t d 0 (Array.replicate ops.size false)=true)
  (h:wpDet P ops (Ext w) (fun a'=>wpAnyB P .any ops Q t m (listN d 0 (Array.replicate ops.size false)) a' w.drew) (ops.toList.take d) a):(Code.region id ops true).wp P Q a w:=by
 have b:(ops.toList.take d).length=d:=by simp;omega
 refine wp_region_any f (wpAny_of_B (t:=t) _ ?_)
 have:=wpAnyB_lex (C:=Ext w) (md:=.any) (w:=w.drew) g k m (ops.toList.take d) 0 (Array.replicate ops.size false) a (fun j e=>by
  rw[b]at e
  rw[List.getElem?_take_of_lt e,q111,Array.getElem?_toList]) (by rw[b];exact n) (fun p i=>(Ext.drew w).trans i) (by rw[b];exact h)
 rw[b]at this
 rw[l]at this⊢
 exact this
end
end
section
section
variable {P:Program} {ops:Array Oper} {Q:Exit→Act→World→Prop} {md:Region.Mode} {t:Nat} {C:World→Prop} {D:Act→Prop}
theorem det_nil {a:Act}(h:D a):wpDet P ops C D [] a:=h
theorem zcs {o:Oper} {rest:List Oper} {a:Act}(v:Value)(c:Region.wanted o (yielded ops a.tmps)=true)(h:∀w,C w→(execOp a.eval o).run P w=.ok (.value v) w)
  (next:wpDet P ops C D rest (a.put o.dst v)):wpDet P ops C D (o::rest) a:=
 ⟨fun _=>⟨v,fun w d=>by unfold Oper.quietAt;rw[h w d];exact⟨rfl,rfl⟩,next⟩,fun b=>by rw[c]at b;cases b⟩
theorem zbq {o:Oper} {rest:List Oper} {a:Act}(x:Operand)(v:Value)(c:Region.wanted o (yielded ops a.tmps)=true)(b:o.op=.move x)(d:a.eval x=v)
  (next:wpDet P ops C D rest (a.put o.dst v)):wpDet P ops C D (o::rest) a:=
 zcs v c (fun w _=>by unfold execOp;simp only[b,d,Sem.run_pure]) next
theorem det_assign {o:Oper} {rest:List Oper} {a:Act}(x:Operand)(v:Value)(c:Region.wanted o (yielded ops a.tmps)=true)(b:o.op=.assign x)(d:a.eval x=v)
  (next:wpDet P ops C D rest (a.put o.dst v)):wpDet P ops C D (o::rest) a:=
 zcs v c (fun w _=>by unfold execOp;simp only[b,d,Sem.run_pure]) next
theorem det_load {o:Oper} {rest:List Oper} {a:Act}(e:TypeId)(x:Operand)(c:Nat)(b:List Value)(d:TypeDesc)(f:Region.wanted o (yielded ops a.tmps)=true)(m:o.op=.load e x)
  (i:a.eval x=.pointer (some ⟨c,0,none⟩)) (l:∀w,C w→w.rangeAt c 0 b) (g:P.underlying e=some d) (k:d.isRow=true) (j:(P.info? e).map (·.size)=some b.length)
  (next:wpDet P ops C D rest (a.put o.dst (.agg b.toArray))):wpDet P ops C D (o::rest) a:=by
 rcases yieldsIf_load_mid (S:=C) f e x m c 0 i b d l g k j with⟨_,h⟩|⟨h,_⟩
 ·exact zcs _ f h next
 rw[f]at h;cases h
theorem zco {o:Oper} {rest:List Oper} {a:Act}(f:FuncId)(b:Array Operand)(h:Array TypeId)(args:List Value)(v:Value)(g:Region.wanted o (yielded ops a.tmps)=true)
  (n:o.op=.call { callee:=.value (.func f),args:=b,argTypes:=h }) (d:∀args w,(callFunc f args).run P w=.ok (.enter f args) w) (k:b.toList.map a.eval=args)
  (m:∀w,C w→Calls P f args.toArray w fun e i=>e=.returned v∧Below w.heap.size w i) (next:wpDet P ops C D rest (a.put o.dst v)):wpDet P ops C D (o::rest) a:=
 ⟨fun _=>⟨v,fun w j=>by
  have l:b.map a.eval=args.toArray:=by
   apply Array.ext'
   simpa using k
  unfold Oper.quietAt execOp
  simp only[n,resolve,l,Sem.run_bind]
  simp only[Act.eval,Deferred.ofValue,Sem.run_pure,Result.andThen_ok,invoke,Array.append_empty,Array.empty_append,d]
  exact⟨rfl,m w j⟩,next⟩,fun c=>by rw[g]at c;cases c⟩
theorem zch {o:Oper} {rest:List Oper} {a:Act}(b:TypeId)(x:Operand)(c k:Nat)(v:Value)(d:Region.wanted o (yielded ops a.tmps)=true)(j:o.op=.load b x)
  (e:a.eval x=.pointer (some ⟨c,k,none⟩)) (i:∀w,C w→w.cell? ⟨c,k,none⟩=some v) (g:∀w,(isAgg b).run P w=.ok false w)
  (next:wpDet P ops C D rest (a.put o.dst v)):wpDet P ops C D (o::rest) a:=
 zcs v d (fun w f=>by
  have h:=i w f
  unfold execOp
  simp[j,e,Instr.loadAt,Instr.sureAddr,loadVar,g,h]) next
theorem det_add {o:Oper} {rest:List Oper} {a:Act}(e b:TypeId)(x y:Operand)(k:IntKind)(m n r:Int)(c:Region.wanted o (yielded ops a.tmps)=true)(g:o.op=.binOp .add e x y b)(d:a.eval x=.int k m)(h:a.eval y=.int k n)(f:k.wrap (m+n)=r)
  (next:wpDet P ops C D rest (a.put o.dst (.int k r))):wpDet P ops C D (o::rest) a:=
 zcs _ c (fun w _=>by unfold execOp;simp[g,d,h,eqGuard,binOp,Op.intArith,f]) next
theorem det_and {o:Oper} {rest:List Oper} {a:Act}(e b:TypeId)(x y:Operand)(k:IntKind)(m n r:Int)(c:Region.wanted o (yielded ops a.tmps)=true)(g:o.op=.binOp .and e x y b)(d:a.eval x=.int k m)(h:a.eval y=.int k n)(f:bits .and k m n=r)
  (next:wpDet P ops C D rest (a.put o.dst (.int k r))):wpDet P ops C D (o::rest) a:=
 zcs _ c (fun w _=>by rw[←f];unfold execOp bits;simp[g,d,h,eqGuard,binOp,Op.intBits]) next
theorem zeh {o:Oper} {rest:List Oper} {a:Act}(e b:TypeId)(x y:Operand)(k:IntKind)(m n r:Int)(c:Region.wanted o (yielded ops a.tmps)=true)(g:o.op=.binOp .xor e x y b)(d:a.eval x=.int k m)(h:a.eval y=.int k n)(f:bits .xor k m n=r)
  (next:wpDet P ops C D rest (a.put o.dst (.int k r))):wpDet P ops C D (o::rest) a:=
 zcs _ c (fun w _=>by rw[←f];unfold execOp bits;simp[g,d,h,eqGuard,binOp,Op.intBits]) next
theorem zbu {o:Oper} {rest:List Oper} {a:Act}(b e:TypeId)(x y:Operand)(c n:Nat)(j:Nat)(g:Region.wanted o (yielded ops a.tmps)=true)(k:o.op=.indexAddr b x y)(h:a.eval x=.pointer (some ⟨c,0,none⟩))(l:a.eval y=.int .i64 (j:Int))
  (d:P.underlying b=some (.array n e)) (f:j<n) (i:∀w,(sizeOf e).run P w=.ok 1 w)
  (next:wpDet P ops C D rest (a.put o.dst (.pointer (some ⟨c,j,none⟩)))):wpDet P ops C D (o::rest) a:=
 zcs _ g (fun w _=>by
  have h1:(0:Int)≤(j:Int)∧(j:Int)<(n:Int):=by omega
  unfold execOp
  simp[k,h,l,Instr.indexAt,asIntOf,run_underlying d,Instr.sureAddr,h1,i,Addr.add_mid,f]) next
theorem run_eqItems_bytes {e:TypeId} {i:TypeInfo}(f:P.underlying e=some (.int .u8))(q:P.info? e=some i)(d:Nat)(b a:List UInt8)(w:World):∀is:List Nat,(∀j∈is,j<b.length∧j<a.length)→
  (Op.eqItems (d+1) e 1 (b.map bval).toArray (a.map bval).toArray is).run P w=.ok (is.all fun j=>decide (b.getD j 0=a.getD j 0)) w
 |[],_=>by simp[Op.eqItems]
 |j::is,h=>by
  obtain⟨n,m⟩:=h j (List.mem_cons_self ..)
  have p:=run_eqItems_bytes f q d b a w is (fun k s=>h k (q136 _ s))
  have g:∀zs:List UInt8,j<zs.length→(part e (zs.map bval).toArray (j*1)).run P w=.ok (bval (zs.getD j 0)) w:=by
   intro zs l
   simp[part,isAgg,run_underlying f,l,List.getD]
  simp only[Op.eqItems,Sem.run_bind,g b n,g a m,Result.andThen_ok,Op.equalIn,run_underlying f]
  have t:∀z:UInt8,bval z=.int .u8 (z.toNat:Int):=fun _=>rfl
  simp only[t]
  by_cases c:b.getD j 0=a.getD j 0
  ·simp only[c,if_true,beq_self_eq_true,Sem.run_pure,Result.andThen_ok,Bool.not_true,Bool.false_eq_true,if_false,p,List.all_cons,decide_true,Bool.true_and]
  have r:(((b.getD j 0).toNat:Int)==((a.getD j 0).toNat:Int))=false:=by
   rw[beq_eq_false_iff_ne]
   intro u
   exact c (UInt8.toNat_inj.1 (by omega))
  simp only[if_true,r,Sem.run_pure,Result.andThen_ok,Bool.not_false,List.all_cons,c,decide_false,Bool.false_and]
theorem run_equal_bytes {d e:TypeId} {n:Nat} {i:TypeInfo}(f:P.underlying d=some (.array n e))(p:P.underlying e=some (.int .u8))(c:P.info? e=some i)(m:P.cellsOf e=1)(b a:List UInt8)(r:b.length=n)(s:a.length=n)(w:World):
  (Op.equal d (.agg (b.map bval).toArray) (.agg (a.map bval).toArray)).run P w=.ok (decide (b=a)) w:=by
 have h1:=run_equalIn_array (P:=P) w 9999 (b.map bval).toArray (a.map bval).toArray f c
 rw[m,run_eqItems_bytes p c 9998 b a w (List.range n) (fun j g=>by have:=List.mem_range.1 g;omega)]at h1
 refine Eq.trans h1 ?_
 congr 1
 rw[Bool.eq_iff_iff,List.all_eq_true,decide_eq_true_iff]
 constructor
 ·intro h
  apply List.ext_getElem (by omega)
  intro k q l
  have:=h k (List.mem_range.2 (by omega))
  simpa[List.getD,q,l]using this
 rintro rfl j _
 simp
theorem det_eql {o:Oper} {rest:List Oper} {a:Act}(b:BinOp)(g m e:TypeId)(x y:Operand)(n:Nat)(i:TypeInfo)(d c:List UInt8)(r:Bool)(q:Region.wanted o (yielded ops a.tmps)=true)(k:o.op=.binOp b g x y m)
  (f:b=.eql∧decide (d=c)=r∨b=.neq∧decide (d=c)=!r)
  (p:P.underlying g=some (.array n e)) (z:P.underlying e=some (.int .u8)) (t:P.info? e=some i) (v:P.cellsOf e=1) (j:P.eqGuardType P.depth g=false)
  (h:a.eval x=.agg (d.map bval).toArray) (l:a.eval y=.agg (c.map bval).toArray) (u:d.length=n) (s:c.length=n)
  (next:wpDet P ops C D rest (a.put o.dst (.bool r))):wpDet P ops C D (o::rest) a:=
 zcs _ q (fun w _=>by
  have h1:=run_equal_bytes p z t v d c u s w
  rcases f with⟨rfl,f⟩|⟨rfl,f⟩
  ·rw[f]at h1
   unfold execOp
   simp[k,h,l,eqGuard,j,binOp,h1]
  rw[f]at h1
  unfold execOp
  simp[k,h,l,eqGuard,j,binOp,h1]) next
theorem end_store {k:Nat} {o:Oper} {c:Array Bool} {a:Act} {w:World}(n:ops[k]? =some o)(f:Region.ready md ops c=[k])(j:Region.ready md ops (c.setIfInBounds k true)=[])(m:doneB t c=true)(g:o.guard=none)
  (h:∀b,Ext w b→o.wp P a b (fun a' d=>Q .normal a' d) Q):wpAnyB P md ops Q t 1 c a w.drew:=by
 refine⟨fun _ b l=>⟨fun h0=>(by rw[f]at h0;cases h0),fun i e=>?_⟩,fun h0=>(by rw[m]at h0;cases h0)⟩
 rw[f]at e
 obtain rfl:i=k:=by simpa using e
 unfold wpOp
 simp only[n,Region.wanted,g,if_true]
 exact Or.inl (Oper.wp_mono (fun a' d p=>⟨j,p⟩) (h b ((Ext.drew w).trans l)))
theorem result_row {w:World} {g:Func} {p:Tmp} {e:TypeId}(h:g.results=#[.cell p e])(b:Array Value)(c:Nat)(f:TypeId)(a:List Value)(d:TypeDesc)
  (l:b.getD p undef=.pointer (some ⟨c,0,none⟩)) (k:Blk w c a f) (i:P.underlying e=some d) (m:d.isRow=true) (j:(P.info? e).map (·.size)=some a.length):
  (results g b).run P w=.ok (.agg a.toArray) w:=
 results_cell_row h b w c f a.toArray (0,0) d l k i (by cases d<;>simp_all [TypeDesc.isRow]) (by simpa using j)
theorem zal {w d:World} {c:Nat} {b:List Value} {a:TypeId}(h:Blk w c b a)(e:Ext w d):Blk d c b a:=h.same (e.block _ h.lt)
theorem ext_range {w b:World} {c:Nat} {a:List Value} {d:TypeId}(h:Blk w c a d)(e:Ext w b):b.rangeAt c 0 a:=(zal h e).range
theorem zab {a b d:World} {c:Nat}(h:Ext a b)(e:b.grownBy d (some c))(f:a.heap.size≤c):Ext a d:=Below.grown h e h.size (fun k g=>by cases g;exact f)
end
end
section
theorem zaj {zs:List Int} {i:Nat} {z:Int}(h:i<zs.length):(zs.set i z).getD i 0=z:=by simp[List.getD,h]
theorem zae {zs:List Int} {i j:Nat} {z:Int}(h:i≠j):(zs.set i z).getD j 0=zs.getD j 0:=by simp[List.getD,List.getElem?_set_ne h]
theorem zds {zs:List Int} {n:Nat} {P:Int→Prop}(c:zs.length=n)(h:∀i,i<n→P (zs.getD i 0)):∀z∈zs,P z:=by
 intro z a
 obtain⟨i,b,rfl⟩:=List.getElem_of_mem a
 have:=h i (by omega)
 rwa [show zs.getD i 0=zs[i]from by simp[List.getD,b]]at this
theorem zcb {zs:List Int} {P:Int→Prop}(h:∀z∈zs,P z) {i:Nat}(a:i<zs.length):P (zs.getD i 0):=by
 rw[show zs.getD i 0=zs[i]from by simp[List.getD,a]]
 exact h _ (List.getElem_mem _)
def leN:List UInt8→Nat
 |[]=>0
 |b::r=>b.toNat+256*leN r
theorem bytes32(l:List UInt8)(h:l.length=32):l=[l.getD 0 0,l.getD 1 0,l.getD 2 0,l.getD 3 0,l.getD 4 0,l.getD 5 0,l.getD 6 0,l.getD 7 0,l.getD 8 0,l.getD 9 0,l.getD 10 0,l.getD 11 0,l.getD 12 0,l.getD 13 0,l.getD 14 0,l.getD 15 0,
  l.getD 16 0,l.getD 17 0,l.getD 18 0,l.getD 19 0,l.getD 20 0,l.getD 21 0,l.getD 22 0,l.getD 23 0,l.getD 24 0,l.getD 25 0,l.getD 26 0,l.getD 27 0,l.getD 28 0,l.getD 29 0,l.getD 30 0,l.getD 31 0]:=by
 match l,h with
 |[_,_,_,_,_,_,_,_,_,_,_,_,_,_,_,_,_,_,_,_,_,_,_,_,_,_,_,_,_,_,_,_],_=>rfl
theorem zbf {l:List UInt8} {i:Nat}(h:i<l.length):(l.map bval)[i]? =some (.int .u8 ((l.getD i 0).toNat:Int)):=by
 simp[bval,List.getD,h]
def bytesN:Nat→Nat→List UInt8
 |0,_=>[]
 |k+1,n=>UInt8.ofNat (n%256)::bytesN k (n / 256)
theorem bytesN_leN:∀(l:List UInt8),bytesN l.length (leN l)=l
 |[]=>rfl
 |b::r=>by
  have d:=b.toNat_lt
  have c:(b.toNat+256*leN r)%256=b.toNat:=by omega
  have a:(b.toNat+256*leN r) / 256=leN r:=by omega
  simp only[leN,q103,bytesN,c,a,bytesN_leN r]
  congr 1
  simp
theorem zap:∀(k n:Nat),(bytesN k n).length=k
 |0,_=>rfl
 |k+1,n=>by simp[bytesN,zap k]
theorem zdw:∀(k n:Nat),leN (bytesN k n)=n%256^k
 |0,n=>by simp[bytesN,leN,Nat.mod_one]
 |k+1,n=>by
  have:=zdw k (n / 256)
  have a:(UInt8.ofNat (n%256)).toNat=n%256:=by
   rw[UInt8.toNat_ofNat']
   omega
  simp only[bytesN,leN,this,a,q119]
  rw[q120 (256^k) 256,Nat.mod_mul]
theorem bytesN_append:∀(m n x:Nat),bytesN (m+n) x=bytesN m x++bytesN n (x / 256^m)
 |0,n,x=>by simp[bytesN]
 |m+1,n,x=>by
  rw[Nat.add_right_comm]
  simp only[bytesN,List.cons_append]
  rw[bytesN_append m n (x / 256),q137,q119,q120 256]
theorem leN_lt:∀(l:List UInt8),leN l<256^l.length
 |[]=>by simp[leN]
 |b::r=>by
  have a:=b.toNat_lt
  have:=leN_lt r
  simp only[leN,q103,q119]
  omega
theorem andU1(n:Nat):bits .and .u8 (n:Int) 1=((n%2:Nat):Int):=by
 have h:(BitVec.ofInt 8 1).toNat=2^1 - 1:=by decide
 have key:(BitVec.ofInt 8 (n:Int) &&& BitVec.ofInt 8 1).toNat=((n:Int)%((2^8:Nat):Int)).toNat%2^1:=by
  rw[BitVec.toNat_and,BitVec.toNat_ofInt,h,q124]
 show IntKind.u8.wrap ((BitVec.ofInt 8 (n:Int) &&& BitVec.ofInt 8 1).toNat:Nat)=_
 rw[key,IntKind.wrap_u8]
 omega
theorem leN_bit:∀(l:List UInt8) (i:Nat),i<8*l.length→leN l / 2^i%2=(l.getD (i / 8) 0).toNat / 2^(i%8)%2
 |[],i,h=>by simp at h
 |b::r,i,h=>by
  rcases q108 i 8 with e|e
  ·have a:i / 8=0:=by omega
   have d:i%8=i:=by omega
   rw[a,d]
   simp only[leN,List.getD_cons_zero]
   generalize leN r=R
   generalize b.toNat=c
   rcases(by omega:i=0∨i=1∨i=2∨i=3∨i=4∨i=5∨i=6∨i=7)with rfl|rfl|rfl|rfl|rfl|rfl|rfl|rfl<;>simp only[Nat.reducePow]<;>omega
  obtain⟨j,rfl⟩:∃j,i=8+j:=⟨i - 8,by omega⟩
  have f:=b.toNat_lt
  have a:(8+j) / 8=j / 8+1:=by omega
  have d:(8+j)%8=j%8:=by omega
  rw[a,d,List.getD_cons_succ,←leN_bit r j (by rw[q103]at h;omega),Nat.pow_add,←q137]
  congr 2
  simp only[leN]
  omega
theorem w64 {a:Nat}(b:a<18446744073709551616):IntKind.u64.wrap (a:Int)=(a:Int):=by rw[IntKind.wrap_u64];omega
theorem or64(a b:Nat)(f:a<18446744073709551616)(g:b<18446744073709551616):bits .or .u64 (a:Int) (b:Int)=((a|||b:Nat):Int):=by
 have d:(BitVec.ofInt 64 (a:Int)).toNat=a:=by rw[BitVec.toNat_ofInt];omega
 have e:(BitVec.ofInt 64 (b:Int)).toNat=b:=by rw[BitVec.toNat_ofInt];omega
 show IntKind.u64.wrap ((BitVec.ofInt 64 (a:Int)|||BitVec.ofInt 64 (b:Int)).toNat:Nat)=_
 have c:=(BitVec.ofInt 64 (a:Int)|||BitVec.ofInt 64 (b:Int)).isLt
 rw[BitVec.toNat_or,d,e]at c⊢
 exact w64 c
theorem or_sum(k x y:Nat)(a:x<2^k):2^k*y|||x=2^k*y+x:=(Nat.two_pow_add_eq_or_of_lt a y).symm
theorem zau {w b:World} {c:Nat} {a:List Value} {t:TypeId}(h:Blk w c a t)(d:Below w.heap.size w b):b.rangeAt c 0 a:=(h.same (d.block _ h.lt)).range
theorem bl_blk {w b:World} {c:Nat} {a:List Value} {t:TypeId}(h:Blk w c a t)(d:Below w.heap.size w b):Blk b c a t:=h.same (d.block _ h.lt)
theorem leN_zeros:∀k,leN (List.replicate k 0)=0
 |0=>rfl
 |k+1=>by rw[List.replicate_succ,leN,leN_zeros k];rfl
def zer:List UInt8:=List.replicate 32 0
theorem zer_length:zer.length=32:=by simp[zer]
theorem leN_zer:leN zer=0:=leN_zeros 32
def zero32:List Value:=ints .u8 (List.replicate 32 0)
section
variable {P:Program}
theorem zaw {w:World} {f:Func} {p u:Tmp} {b:TypeId}(h:f.results=#[.cell p b,.tmp u])(e:Array Value)(c:Nat)(j:TypeId)(a:List Value)(d:TypeDesc)
  (m:e.getD p undef=.pointer (some ⟨c,0,none⟩)) (l:Blk w c a j) (g:P.underlying b=some d) (k:d.isRow=true) (i:(P.info? b).map (·.size)=some a.length):
  (results f e).run P w=.ok (.tuple #[.agg a.toArray,e.getD u undef]) w:=by
 rw[results_cell_tmp h,m]
 simp only[asAddr,Sem.run_pure,Result.andThen_ok,run_loadVar_mid w c 0 b a d l.range g k i]
end
end
theorem Tryd.arr23:(Tryd.prog.info? 23).map (·.size)=some 32:=by kernel_rfl
theorem zdn:Tryd.prog.info? 5=some (Tryd.prog.info? 5).get! :=by kernel_rfl
theorem zda:Tryd.prog.cellsOf 5=1:=by kernel_rfl
theorem zdl:Tryd.prog.eqGuardType Tryd.prog.depth 23=false:=by kernel_rfl
theorem zag {l:List UInt8}(h:l.length=32):(Tryd.prog.info? 23).map (·.size)=some (l.map bval).length:=by rw[q100,h];exact Tryd.arr23
def dV:List Int→Int
 |[]=>0
 |z::r=>z+65536*dV r
theorem dV_set:∀(zs:List Int) (i:Nat) (z:Int),i<zs.length→dV (zs.set i z)=dV zs+(z - zs.getD i 0)*65536^i
 |[],i,z,h=>by simp at h
 |a::r,0,z,h=>by simp[dV];omega
 |a::r,i+1,z,h=>by
  have:=dV_set r i z (by simpa using h)
  simp only[List.set_cons_succ,dV,this,List.getD_cons_succ,q114]
  grind
def bigM:Int:=65536^16
theorem bigM_15:(65536:Int)^15*65536=bigM:=rfl
structure CY(zs zs':List Int)(B:Int)(k:Nat):Prop where
 len:zs'.length=16
 val:dV zs'=dV zs
 low:∀i,i<k→0≤zs'.getD i 0∧zs'.getD i 0≤65535
 here: -(B+B / 32768+2)≤zs'.getD k 0∧zs'.getD k 0≤B+B / 32768+2
 high:∀i,k<i→i<16→ -B≤zs'.getD i 0∧zs'.getD i 0≤B
structure CZ(zs zs':List Int)(B:Int):Prop where
 len:zs'.length=16
 ex:∃c,-(B / 32768+2)≤c∧c≤B / 32768+2∧dV zs'=dV zs - (bigM - 38)*c∧0≤zs'.getD 0 0 - 38*c∧zs'.getD 0 0 - 38*c≤65535
 low:∀i,0<i→i<16→0≤zs'.getD i 0∧zs'.getD i 0≤65535
theorem CY.start {zs:List Int} {B:Int}(c:zs.length=16)(b:∀z∈zs,-B≤z∧z≤B)(h0:0≤B):CY zs zs B 0:=by
 have g:∀i,i<16→ -B≤zs.getD i 0∧zs.getD i 0≤B:=fun i a=>by
  have:zs.getD i 0=zs[i]'(by omega):=by simp[List.getD,show i<zs.length from by omega]
  rw[this]
  exact b _ (List.getElem_mem _)
 have:=g 0 (by omega)
 exact⟨c,rfl,fun i a=>by omega,by omega,fun i _ a=>g i a⟩
theorem CY.step {zs a:List Int} {B:Int} {k:Nat}(h:CY zs a B k)(l:k<15)(h0:0≤B):
  CY zs ((a.set k (a.getD k 0 - a.getD k 0 / 65536*65536)).set (k+1) (a.getD (k+1) 0+a.getD k 0 / 65536)) B (k+1):=by
 obtain⟨h1,h2,c,j,b⟩:=h
 have g:=b (k+1) (by omega) (by omega)
 refine⟨by simp[h1],?_,fun i f=>?_,?_,fun i f d=>?_⟩
 ·rw[dV_set _ _ _ (by simp;omega),dV_set _ _ _ (by omega),zae (by omega),h2,q114]
  generalize (65536:Int)^k=X
  grind
 ·by_cases e:i=k
  ·subst e
   rw[zae (by omega),zaj (by omega)]
   omega
  rw[zae (by omega),zae (by omega)]
  exact c i (by omega)
 ·rw[zaj (by simp;omega)]
  omega
 rw[zae (by omega),zae (by omega)]
 exact b i (by omega) d
theorem CY.last {zs a:List Int} {B:Int}(h:CY zs a B 15)(h0:0≤B):
  CZ zs ((a.set 15 (a.getD 15 0 - a.getD 15 0 / 65536*65536)).set 0 (a.getD 0 0+38*(a.getD 15 0 / 65536))) B:=by
 obtain⟨h1,h2,b,g,j⟩:=h
 have d:=b 0 (by omega)
 refine⟨by simp[h1],⟨a.getD 15 0 / 65536,by omega,by omega,?_,?_,?_⟩,fun i f c=>?_⟩
 ·rw[dV_set _ _ _ (by simp;omega),dV_set _ _ _ (by omega),zae (by omega),h2,←bigM_15]
  generalize (65536:Int)^15=X
  rw[Int.pow_zero]
  grind
 ·rw[zaj (by simp;omega)]
  omega
 ·rw[zaj (by simp;omega)]
  omega
 by_cases e:i=15
 ·subst e
  rw[zae (by omega),zaj (by omega)]
  omega
 rw[zae (by omega),zae (by omega)]
 exact b i (by omega)
def CS(zs zs':List Int)(B:Int)(k:Nat):Prop:=(k≤15∧CY zs zs' B k)∨(k=16∧CZ zs zs' B)
theorem Tryd.arr87:(Tryd.prog.info? 87).map (·.size)=some 16:=by kernel_rfl
theorem carry_any(zs:List Int)(B:Int)(w:World)(M:zs.length=16)(E:∀z∈zs,-B≤z∧z≤B)(s:0≤B)(a0:B≤576460752303423488):
  Calls Tryd.prog 75 #[.agg (ints .i64 zs).toArray] w fun e Y=>∃a:List Int,e=.returned (.agg (ints .i64 a).toArray)∧CZ zs a B∧Below w.heap.size w Y:=by
 obtain⟨K,H⟩:=jq2 (CY.start M E s) (Blk.made w (ints .i64 zs) 87)
 clear M E
 go_enter Tryd.func75,Tryd.ntmps75
 go_wp2_with fail
 generalize G:(#[Value.int .i64 0,.int .i64 0,.int .i64 0,.int .i64 0,.int .i64 0,.int .i64 0,.int .i64 0,.int .i64 0,.int .i64 0,.int .i64 0,.int .i64 0,.int .i64 0,.int .i64 0,.int .i64 0,.int .i64 0,.int .i64 0]:Array Value)=Z
 have L:Hid (Z=(ints .i64 (List.replicate 16 0)).toArray):=jh (by rw[←G];rfl)
 clear G
 obtain⟨A,m⟩:=nxq w.heap.size
 have h1:Blk ((w.alloc (.cells (ints .i64 zs).toArray 87)).alloc (.cells Z 87)) A (ints .i64 zs) 87:=by
  rw[m]
  exact H.o.alloc _
 have h2:Blk ((w.alloc (.cells (ints .i64 zs).toArray 87)).alloc (.cells Z 87)) (A+1) (ints .i64 (List.replicate 16 0)) 87:=by
  rw[L.o]
  have:=Blk.made (w.alloc (.cells (ints .i64 zs).toArray 87)) (ints .i64 (List.replicate 16 0)) 87
  rw[m]
  simpa using this
 have F:Below w.heap.size w ((w.alloc (.cells (ints .i64 zs).toArray 87)).alloc (.cells Z 87)):=((Below.refl _ _).alloc (q101 _) _).alloc (by simp) _
 have p:w.heap.size≤A:=by omega
 rw[←m]
 generalize (w.alloc (.cells (ints .i64 zs).toArray 87)).alloc (.cells Z 87)=w0 at*
 obtain⟨J,I,C⟩:=jq3 h1 h2 F
 clear h1 h2 F m L
 go_loopw [3] (fun i wr=>∃(k:Nat) (a:List Int),k≤16∧i=.int .i64 k∧CS zs a B k∧Blk wr A (ints .i64 a) 87∧Blk wr (A+1) (ints .i64 (List.replicate 16 0)) 87∧Below w.heap.size w wr) (fun i _=>16 - (intOf i).toNat)
 case atStart=>exact⟨0,zs,by omega,rfl,Or.inl ⟨by omega,K.o⟩,J.o,I.o,C.o⟩
 case round=>
  clear K J I C H
  obtain⟨k,a,hk,rfl,V,b,f,d⟩:=hrel
  have a2:(0:Int)≤(k:Int):=Int.natCast_nonneg _
  rcases V with⟨a1,c⟩|⟨rfl,n⟩
  ·have D:=c.len
   have hh:=c.here
   have S:=b.cell k
   rw[zav (by omega)]at S
   have fk:=b.free k
   by_cases Q:k<15
   ·have R:=c.high (k+1) (by omega) (by omega)
    have t:=b.cell (k+1)
    rw[zav (by omega)]at t
    have P:=b.free (k+1)
    have l:=c.step Q s
    generalize a.getD k 0=x at*
    generalize a.getD (k+1) 0=y at*
    obtain⟨u,j,h,g⟩:=jq4 l b f d
    clear c l b f d D
    go_wp2_with fail
    go_roundw
    case rel=>
     refine⟨k+1,_,by omega,by go_num,Or.inl ⟨by omega,u.o⟩,?_,(h.o.far (by simp) _).far (by simp) _,(g.o.setCell p _).setCell p _⟩
     rw[←zbp,←zbp]
     exact(j.o.set k _).set (k+1) _
    case measure=>simp[intOf];omega
   have W:k=15:=by omega
   subst W
   have R:=c.low 0 (by omega)
   have t:=b.cell 0
   rw[zav (by omega)]at t
   have P:=b.free 0
   have l:=c.last s
   generalize a.getD 15 0=x at*
   generalize a.getD 0 0=y at*
   obtain⟨u,j,h,g⟩:=jq4 l b f d
   clear c l b f d D
   go_wp2_with fail
   go_roundw
   case rel=>
    refine⟨16,_,by omega,by go_num,Or.inr ⟨rfl,u.o⟩,?_,(h.o.far (by simp) _).far (by simp) _,(g.o.setCell p _).setCell p _⟩
    rw[←zbp,←zbp]
    exact(j.o.set 15 _).set 0 _
   case measure=>simp[intOf]
  obtain⟨j,h,g,X⟩:=jq4 b f d n
  have q:Hid ((Tryd.prog.info? 87).map (·.size)=some (ints .i64 a).length):=jh (by rw[zaa,n.len];exact Tryd.arr87)
  have N:Hid ((ints .i64 a).length=(ints .i64 (List.replicate 16 0)).length):=jh (by rw[zaa,zaa,n.len];rfl)
  clear b f d n
  go_wp2_with (first|(refine zar rfl _ _ rfl A rfl _ _ _ _ j.o Tryd.underlying87 q.o ?_)|(refine zah rfl _ _ _ rfl (A+1) _ rfl rfl _ _ h.o N.o q.o (zai _ _) ?_;intro w5 O T))
  exact bodyPost_ret (v:=.agg (ints .i64 a).toArray) (zat (by rfl) _ (A+1) _ _ _ _ (by rfl) O Tryd.underlying87 q.o) rfl ⟨a,rfl,X.o,g.o.grown T g.o.size (fun r U=>by cases U;omega)⟩
theorem list16(zs:List Int)(h:zs.length=16):zs=[zs.getD 0 0,zs.getD 1 0,zs.getD 2 0,zs.getD 3 0,zs.getD 4 0,zs.getD 5 0,zs.getD 6 0,zs.getD 7 0,zs.getD 8 0,zs.getD 9 0,zs.getD 10 0,zs.getD 11 0,zs.getD 12 0,zs.getD 13 0,zs.getD 14 0,zs.getD 15 0]:=by
 match zs,h with
 |[_,_,_,_,_,_,_,_,_,_,_,_,_,_,_,_],_=>rfl
def pairAt(l:List UInt8)(i:Nat):Int:=(l.getD (2*i) 0).toNat+256*(l.getD (2*i+1) 0).toNat
theorem pairAt_range(l:List UInt8)(i:Nat):0≤pairAt l i∧pairAt l i≤65535:=by
 unfold pairAt
 have h1:=(l.getD (2*i) 0).toNat_lt
 have h2:=(l.getD (2*i+1) 0).toNat_lt
 omega
theorem dV_pairs(zs:List Int)(l:List UInt8)(a:zs.length=16)(b:l.length=32)(h:∀i,i<16→zs.getD i 0=pairAt l i):dV zs=leN l:=by
 rw[list16 zs a,bytes32 l b]
 simp only[h 0 (by omega),h 1 (by omega),h 2 (by omega),h 3 (by omega),h 4 (by omega),h 5 (by omega),h 6 (by omega),h 7 (by omega),h 8 (by omega),h 9 (by omega),h 10 (by omega),h 11 (by omega),h 12 (by omega),h 13 (by omega),h 14 (by omega),h 15 (by omega)]
 simp only[dV,leN,pairAt,Nat.reduceMul,Nat.reduceAdd]
 omega
theorem or8(x y:Nat)(c:x<256)(e:y<256):bits .or .i64 (x:Int) ((y:Int)*256)=x+256*(y:Int):=by
 have d:(BitVec.ofInt 64 (x:Int)).toNat=x:=by rw[BitVec.toNat_ofInt];omega
 have a:(BitVec.ofInt 64 ((y:Int)*256)).toNat=256*y:=by rw[BitVec.toNat_ofInt];omega
 show IntKind.i64.wrap ((BitVec.ofInt 64 (x:Int)|||BitVec.ofInt 64 ((y:Int)*256)).toNat:Nat)=_
 rw[BitVec.toNat_or,d,a,Nat.or_comm]
 have:=Nat.two_pow_add_eq_or_of_lt (i:=8) (b:=x) (by simpa using c) y
 have h2:256*y|||x=256*y+x:=this.symm
 rw[h2,IntKind.wrap_i64]
 omega
structure InS(l:List UInt8)(zs:List Int)(k:Nat):Prop where
 len:zs.length=16
 low:∀i,i<k→zs.getD i 0=pairAt l i
theorem InS.step {l:List UInt8} {zs:List Int} {k:Nat}(h:InS l zs k)(b:k<16):InS l (zs.set k (pairAt l k)) (k+1):=by
 obtain⟨h1,h2⟩:=h
 refine⟨by simp[h1],fun i a=>?_⟩
 by_cases e:i=k
 ·subst e
  rw[zaj (by omega)]
 rw[zae (by omega)]
 exact h2 i (by omega)
theorem InS.done {l:List UInt8} {zs:List Int}(h:InS l zs 16)(b:l.length=32):(∀z∈zs,0≤z∧z≤65535)∧dV zs=leN l:=by
 refine⟨fun z a=>?_,dV_pairs zs l h.len b h.low⟩
 obtain⟨i,c,rfl⟩:=List.getElem_of_mem a
 have d:=h.len
 have:=h.low i (by omega)
 rw[show zs[i]=zs.getD i 0 from by simp[List.getD,c],this]
 exact pairAt_range l i
/-- in: the digits of a Num. -/
theorem rin_any(l:List UInt8)(w:World)(hl:l.length=32):
  Calls Tryd.prog 65 #[.agg (l.map bval).toArray] w fun e w'=>∃zs:List Int,e=.returned (.agg (ints .i64 zs).toArray)∧zs.length=16∧(∀z∈zs,0≤z∧z≤65535)∧dV zs=leN l∧Below w.heap.size w w':=by
 have HL:=jh hl
 have hbx:=boxes3 w (l.map bval) (ints .i64 (List.replicate 16 0)) (ints .i64 (List.replicate 16 0)) 23 87 87
 have HBX:=jh hbx
 clear hl hbx
 go_enter Tryd.func65,Tryd.ntmps65
 go_wp2_with fail
 change Code.wp _ _ _ _ (((w.alloc (.cells (l.map bval).toArray 23)).alloc (.cells (ints .i64 (List.replicate 16 0)).toArray 87)).alloc (.cells (ints .i64 (List.replicate 16 0)).toArray 87))
 generalize ((w.alloc (.cells (l.map bval).toArray 23)).alloc (.cells (ints .i64 (List.replicate 16 0)).toArray 87)).alloc (.cells (ints .i64 (List.replicate 16 0)).toArray 87)=w0 at*
 obtain⟨h1,h2,h3,h4⟩:=HBX.o
 obtain⟨A,hA⟩:=nxq w.heap.size
 rw[←hA]at h1 h2 h3⊢
 have hA2:w.heap.size≤A:=by omega
 obtain⟨H1,H2,H3,H4⟩:=jq4 h1 h2 h3 h4
 clear h1 h2 h3 h4 HBX hA
 go_loopw [4] (fun i wr=>∃(k:Nat) (zs:List Int),k≤16∧i=.int .i64 k∧InS l zs k∧Blk wr A (l.map bval) 23∧Blk wr (A+1) (ints .i64 (List.replicate 16 0)) 87∧Blk wr (A+1+1) (ints .i64 zs) 87∧Below w.heap.size w wr) (fun i _=>16 - (intOf i).toNat)
 case atStart=>exact⟨0,_,by omega,rfl,⟨rfl,fun i hi=>by omega⟩,H1.o,H2.o,H3.o,H4.o⟩
 case round=>
  clear H1 H2 H3 H4
  obtain⟨k,zs,hk,rfl,hin,hb1,hb2,hb3,hbel⟩:=hrel
  have i0':(0:Int)≤(k:Int):=Int.natCast_nonneg _
  have hl16:=hin.len
  by_cases hlt:k<16
  ·have hl:=HL.o
   have e1:=hb1.cell (2*k)
   rw[zbf (by omega)]at e1
   have e2:=hb1.cell (2*k+1)
   rw[zbf (by omega)]at e2
   have e3:=hb3.cell k
   rw[zav (by omega)]at e3
   have fk:=hb3.free k
   have i1:(k:Int)<16:=by omega
   have s1:IntKind.i64.wrap (2*(k:Int))=2*k:=IntWalk.i64_in _ (by omega)
   have s2:IntKind.i64.wrap (2*(k:Int)+1)=2*k+1:=IntWalk.i64_in _ (by omega)
   have s3:(2*(k:Int)).toNat=2*k:=by omega
   have s4:(2*(k:Int)+1).toNat=2*k+1:=by omega
   have s5:(0:Int)≤2*(k:Int):=by omega
   have s6:(0:Int)≤2*(k:Int)+1:=by omega
   have s7:2*(k:Int)<32:=by omega
   have s8:2*(k:Int)+1<32:=by omega
   have hx:=(l.getD (2*k) 0).toNat_lt
   have hy:=(l.getD (2*k+1) 0).toNat_lt
   have hor:=or8 (l.getD (2*k) 0).toNat (l.getD (2*k+1) 0).toNat (by simpa using hx) (by simpa using hy)
   have hst:=hin.step hlt
   have hpa:pairAt l k=(l.getD (2*k) 0).toNat+256*((l.getD (2*k+1) 0).toNat:Int):=rfl
   rw[hpa,←hor]at hst
   generalize (l.getD (2*k) 0).toNat=x at*
   generalize (l.getD (2*k+1) 0).toNat=y at*
   have hy2:y<256:=by simpa using hy
   have hx2:x<256:=by simpa using hx
   have W1:Hid (wrap64 (x:Int)=x):=jh (by rw[←IntWalk.i64_left];exact IntWalk.i64_in _ (by omega))
   have W2:Hid (wrap64 (y:Int)=y):=jh (by rw[←IntWalk.i64_left];exact IntWalk.i64_in _ (by omega))
   have W3:Hid (wrap64 ((y:Int)*256)=y*256):=jh (by rw[←IntWalk.i64_left];exact IntWalk.i64_in _ (by omega))
   obtain⟨HST,HB1,HB2,HB3,HBE⟩:=jq5 hst hb1 hb2 hb3 hbel
   clear hin hst hb1 hb2 hb3 hbel hl16 hl hor hpa hx hy hx2 hy2
   go_wp2_with fail
   go_region
   go_wp2_with fail
   go_roundw
   case rel=>
    rw[W1.o,W2.o,W3.o]
    refine⟨k+1,_,by omega,by go_num,HST.o,HB1.o.far (by simp;omega) _,HB2.o.far (by simp) _,?_,(HBE.o.setCell (by simp;omega) _).drew⟩
    rw[←zbp]
    exact HB3.o.set k _
   case measure=>simp[intOf];omega
  have hk':k=16:=by omega
  subst hk'
  obtain⟨HB2,HB3,HBE,HIN⟩:=jq4 hb2 hb3 hbel hin
  have hi1:Hid ((Tryd.prog.info? 87).map (·.size)=some (ints .i64 zs).length):=jh (by rw[zaa,hin.len];exact Tryd.arr87)
  have hl1:Hid ((ints .i64 zs).length=(ints .i64 (List.replicate 16 0)).length):=jh (by rw[zaa,zaa,hin.len];rfl)
  clear hb1 hb2 hb3 hbel hin hl16
  go_wp2_with (first|(refine zar rfl _ _ rfl (A+1+1) rfl _ _ _ _ HB3.o Tryd.underlying87 hi1.o ?_)|(refine zah rfl _ _ _ rfl (A+1) _ rfl rfl _ _ HB2.o hl1.o hi1.o (zai _ _) ?_;intro w5 hb5 hg5))
  obtain⟨q1,q2⟩:=HIN.o.done HL.o
  exact bodyPost_ret (v:=.agg (ints .i64 zs).toArray) (zat (by rfl) _ (A+1) _ _ _ _ (by rfl) hb5 Tryd.underlying87 hi1.o) rfl ⟨zs,rfl,HIN.o.len,q1,q2,HBE.o.grown hg5 HBE.o.size (fun r hr=>by cases hr;omega)⟩
def pP:Int:=57896044618658097711785492504343953926634992332820282019728792003956564819949
def pN:Nat:=57896044618658097711785492504343953926634992332820282019728792003956564819949
theorem pP_nat:pP=(pN:Int):=rfl
theorem bigM_p:bigM=2*pP+38:=by decide+kernel
def IsEl(v:Value)(x:Int):Prop:=∃zs:List Int,v=.agg (ints .i64 zs).toArray∧zs.length=16∧(∀z∈zs,-131072≤z∧z≤131072)∧∃q,dV zs=x+pP*q
theorem CZ.el {zs a:List Int} {B:Int}(h:CZ zs a B)(g:B≤1048576):(∀z∈a,-131072≤z∧z≤131072)∧∃q,dV a=dV zs+pP*q:=by
 obtain⟨h1,⟨c,c1,c2,c3,f,e⟩,b⟩:=h
 refine⟨zds (P:=fun z=> -131072≤z∧z≤131072) h1 (fun i d=>?_),-2*c,?_⟩
 ·rcases q129 i with rfl|h0
  ·omega
  have:=b i h0 d
  omega
 rw[c3,bigM_p]
 grind
theorem zcj:∀(zs:List Int) (k:Nat),k<zs.length→dV (zs.take (k+1))=dV (zs.take k)+zs.getD k 0*65536^k
 |[],k,h=>by simp at h
 |a::r,0,h=>by simp[dV]
 |a::r,k+1,h=>by
  have:=zcj r k (by simpa using h)
  simp only[q138,dV,List.getD_cons_succ,q114]at this⊢
  rw[this]
  grind
structure AddS(xs ys zs:List Int)(k:Nat):Prop where
 len:zs.length=16
 val:dV zs=dV xs+dV (ys.take k)
 high:∀i,k≤i→i<16→zs.getD i 0=xs.getD i 0
 low:∀i,i<k→i<16→ -262144≤zs.getD i 0∧zs.getD i 0≤262144
theorem AddS.step {b a zs:List Int} {k:Nat}(h:AddS b a zs k)(m:k<16)(g:∀z∈b,-131072≤z∧z≤131072)(l:∀z∈a,-131072≤z∧z≤131072)(n:b.length=16)(r:a.length=16):
  AddS b a (zs.set k (b.getD k 0+a.getD k 0)) (k+1):=by
 obtain⟨h1,h2,d,j⟩:=h
 have q:=zcb (P:=fun z=> -131072≤z∧z≤131072) g (i:=k) (by omega)
 have p:=zcb (P:=fun z=> -131072≤z∧z≤131072) l (i:=k) (by omega)
 refine⟨by simp[h1],?_,fun i f c=>?_,fun i f c=>?_⟩
 ·rw[dV_set _ _ _ (by omega),h2,d k (q101 _) m,zcj _ _ (by omega)]
  grind
 ·rw[zae (by omega)]
  exact d i (by omega) c
 by_cases e:i=k
 ·subst e
  rw[zaj (by omega)]
  omega
 rw[zae (by omega)]
 exact j i (by omega) c
structure SubS(xs ys zs:List Int)(k:Nat):Prop where
 len:zs.length=16
 val:dV zs=dV xs - dV (ys.take k)
 high:∀i,k≤i→i<16→zs.getD i 0=xs.getD i 0
 low:∀i,i<k→i<16→ -262144≤zs.getD i 0∧zs.getD i 0≤262144
theorem SubS.step {b a zs:List Int} {k:Nat}(h:SubS b a zs k)(m:k<16)(g:∀z∈b,-131072≤z∧z≤131072)(l:∀z∈a,-131072≤z∧z≤131072)(n:b.length=16)(r:a.length=16):
  SubS b a (zs.set k (b.getD k 0 - a.getD k 0)) (k+1):=by
 obtain⟨h1,h2,d,j⟩:=h
 have q:=zcb (P:=fun z=> -131072≤z∧z≤131072) g (i:=k) (by omega)
 have p:=zcb (P:=fun z=> -131072≤z∧z≤131072) l (i:=k) (by omega)
 refine⟨by simp[h1],?_,fun i f c=>?_,fun i f c=>?_⟩
 ·rw[dV_set _ _ _ (by omega),h2,d k (q101 _) m,zcj _ _ (by omega)]
  grind
 ·rw[zae (by omega)]
  exact d i (by omega) c
 by_cases e:i=k
 ·subst e
  rw[zaj (by omega)]
  omega
 rw[zae (by omega)]
 exact j i (by omega) c
theorem rsub_any(u v:Value)(x y:Int)(w:World)(hu:IsEl u x)(hv:IsEl v y):
  Calls Tryd.prog 67 #[u,v] w fun e w'=>∃r,e=.returned r∧IsEl r (x - y)∧Below w.heap.size w w':=by
 obtain⟨g,rfl,R,ba,qa,va⟩:=hu
 obtain⟨f,rfl,Z,U,qb,W⟩:=hv
 obtain⟨HA,S,H,p,VA,VB⟩:=jq6 ba U R Z va W
 have I:=jh (boxes3 w (ints .i64 g) (ints .i64 f) (ints .i64 (List.replicate 16 0)) 87 87 87)
 clear ba U R Z va W
 go_enter Tryd.func67,Tryd.ntmps67
 go_wp2_with fail
 change Code.wp _ _ _ _ (((w.alloc (.cells (ints .i64 g).toArray 87)).alloc (.cells (ints .i64 f).toArray 87)).alloc (.cells (ints .i64 (List.replicate 16 0)).toArray 87))
 generalize ((w.alloc (.cells (ints .i64 g).toArray 87)).alloc (.cells (ints .i64 f).toArray 87)).alloc (.cells (ints .i64 (List.replicate 16 0)).toArray 87)=w0 at*
 obtain⟨h1,h2,D,J⟩:=I.o
 obtain⟨A,O⟩:=nxq w.heap.size
 rw[←O]at h1 h2 D⊢
 have ac:w.heap.size≤A:=by omega
 obtain⟨M,T,X,Y⟩:=jq4 h1 h2 D J
 clear h1 h2 D J I O
 go_loopw [5] (fun i wr=>∃(k:Nat) (zs:List Int),k≤16∧i=.int .i64 k∧SubS g f zs k∧Blk wr A (ints .i64 zs) 87∧Blk wr (A+1) (ints .i64 f) 87∧Blk wr (A+1+1) (ints .i64 (List.replicate 16 0)) 87∧Below w.heap.size w wr) (fun i _=>16 - (intOf i).toNat)
 case atStart=>exact⟨0,g,by omega,rfl,⟨H.o,by simp[dV],fun i _ _=>rfl,fun i F=>by omega⟩,M.o,T.o,X.o,Y.o⟩
 case round=>
  clear M T X Y
  obtain⟨k,zs,hk,rfl,c,d,j,B,s⟩:=hrel
  have ae:(0:Int)≤(k:Int):=Int.natCast_nonneg _
  have h:=c.len
  by_cases Q:k<16
  ·have e1:=d.cell k
   rw[zav (by omega),c.high k (q101 _) Q]at e1
   have e2:=j.cell k
   rw[zav (by have:=p.o;omega)]at e2
   have fk:=d.free k
   have i1:(k:Int)<16:=by omega
   have V:=c.step Q HA.o S.o H.o p.o
   have b1:=zcb (P:=fun z=> -131072≤z∧z≤131072) HA.o (i:=k) (by have:=H.o;omega)
   have b2:=zcb (P:=fun z=> -131072≤z∧z≤131072) S.o (i:=k) (by have:=p.o;omega)
   generalize g.getD k 0=a at*
   generalize f.getD k 0=b at*
   obtain⟨af,aa⟩:=b1
   obtain⟨ab,ad⟩:=b2
   have W1:Hid (wrap64 (a - b)=a - b):=jh (by rw[←IntWalk.i64_left];exact IntWalk.i64_in _ (by omega))
   obtain⟨a8,G,a4,t,n⟩:=jq5 V d j B s
   clear c V d j B s h
   go_wp2_with fail
   go_region
   go_wp2_with fail
   go_roundw
   case rel=>
    try rw[W1.o]
    refine⟨k+1,_,by omega,by go_num,a8.o,?_,a4.o.far (by simp) _,t.o.far (by simp;omega) _,(n.o.setCell (by simp;omega) _).drew⟩
    rw[←zbp]
    exact G.o.set k _
   case measure=>simp[intOf];omega
  have a3:k=16:=by omega
  subst a3
  have E:=c.val
  rw[q105 (by have:=p.o;omega)]at E
  have L:∀z∈zs,-262144≤z∧z≤262144:=zds (P:=fun z=> -262144≤z∧z≤262144) h (fun i F=>c.low i F F)
  obtain⟨G,t,n,a7⟩:=jq4 d B s E
  have a1:Hid ((Tryd.prog.info? 87).map (·.size)=some (ints .i64 zs).length):=jh (by rw[zaa,h];exact Tryd.arr87)
  have HC:=jh (carry_any zs 262144 wr h L (by omega) (by omega))
  clear d j B s c h E L
  go_wp2_with (refine zar rfl _ _ rfl A rfl _ _ _ _ G.o Tryd.underlying87 a1.o ?_)
  refine HC.o.mono ?_
  rintro e w5 ⟨m,rfl,l,C⟩
  have a9:Hid (Blk w5 (A+1+1) (ints .i64 (List.replicate 16 0)) 87):=jh (t.o.same (C.block _ t.o.lt))
  have N:=jh (n.o.trans (C.mono n.o.size))
  have K:Hid ((Tryd.prog.info? 87).map (·.size)=some (ints .i64 m).length):=jh (by rw[zaa,l.len];exact Tryd.arr87)
  have a6:Hid ((ints .i64 m).length=(ints .i64 (List.replicate 16 0)).length):=jh (by rw[zaa,zaa,l.len];rfl)
  have a0:=jh l
  clear C l
  go_wp2_with (refine zah rfl _ _ _ rfl (A+1+1) _ rfl rfl _ _ a9.o a6.o K.o (zai _ _) ?_;intro w6 a2 a5)
  obtain⟨q1,q,q2⟩:=a0.o.el (by omega)
  refine bodyPost_ret (v:=.agg (ints .i64 m).toArray) (zat (by rfl) _ (A+1+1) _ _ _ _ (by rfl) a2 Tryd.underlying87 K.o) rfl ⟨_,rfl,⟨m,rfl,a0.o.len,q1,qa - qb+q,?_⟩,N.o.grown a5 N.o.size (fun r hr=>by cases hr;omega)⟩
  rw[q2,a7.o,VA.o,VB.o]
  grind
structure MulS(xs ys T:List Int)(i k:Nat):Prop where
 len:T.length=31
 val:dV T=dV (xs.take i)*dV ys+xs.getD i 0*dV (ys.take k)*65536^i
 bnd:∀j,j<31→ -((16*(i:Int)+k)*17179869184)≤T.getD j 0∧T.getD j 0≤(16*(i:Int)+k)*17179869184
theorem prod_bound {a b:Int}(l: -131072≤a)(e:a≤131072)(j: -131072≤b)(h:b≤131072): -17179869184≤a*b∧a*b≤17179869184:=by
 have h1:(a+131072)*(b+131072)≥0:=q130 (by omega) (by omega)
 have h2:(131072 - a)*(131072 - b)≥0:=q130 (by omega) (by omega)
 have c:(a+131072)*(131072 - b)≥0:=q130 (by omega) (by omega)
 have g:(131072 - a)*(b+131072)≥0:=q130 (by omega) (by omega)
 have i:(a+131072)*(b+131072)=a*b+131072*a+131072*b+17179869184:=by grind
 have k:(131072 - a)*(131072 - b)=a*b - 131072*a - 131072*b+17179869184:=by grind
 have d:(a+131072)*(131072 - b)=-(a*b)+131072*a - 131072*b+17179869184:=by grind
 have f:(131072 - a)*(b+131072)=-(a*b) - 131072*a+131072*b+17179869184:=by grind
 omega
theorem MulS.step {b a T:List Int} {i k:Nat}(h:MulS b a T i k)(p:i<16)(r:k<16)(l:∀z∈b,-131072≤z∧z≤131072)(m:∀z∈a,-131072≤z∧z≤131072)(n:b.length=16)(t:a.length=16):
  MulS b a (T.set (i+k) (T.getD (i+k) 0+b.getD i 0*a.getD k 0)) i (k+1):=by
 obtain⟨h1,h2,f⟩:=h
 have d:=zcb (P:=fun z=> -131072≤z∧z≤131072) l (i:=i) (by omega)
 have c:=zcb (P:=fun z=> -131072≤z∧z≤131072) m (i:=k) (by omega)
 have s:=prod_bound d.1 d.2 c.1 c.2
 refine⟨by simp[h1],?_,fun j g=>?_⟩
 ·rw[dV_set _ _ _ (by omega),h2,zcj _ _ (by omega),Int.pow_add]
  grind
 have q:=f j g
 by_cases e:j=i+k
 ·subst e
  rw[zaj (by omega)]
  omega
 rw[zae (by omega)]
 omega
theorem MulS.next {b a T:List Int} {i:Nat}(h:MulS b a T i 16)(f:i<16)(e:b.length=16)(g:a.length=16):MulS b a T (i+1) 0:=by
 obtain⟨h1,h2,c⟩:=h
 refine⟨h1,?_,fun j d=>?_⟩
 ·rw[h2,zcj b i (by omega),q105 (l:=a) (by omega)]
  simp only[List.take_zero,dV]
  grind
 have:=c j d
 omega
theorem MulS.start {a b:List Int}:MulS a b (List.replicate 31 0) 0 0:=by
 refine⟨rfl,?_,fun j c=>?_⟩
 ·simp[dV,List.replicate]
 have:(List.replicate 31 (0:Int)).getD j 0=0:=by rw[List.getD_eq_getElem?_getD,List.getElem?_replicate];split<;>rfl
 rw[this]
 omega
structure OutS(T o:List Int)(i:Nat):Prop where
 len:o.length=16
 low:∀j,j<i→j<16→o.getD j 0=if j<15 then T.getD j 0+38*T.getD (j+16) 0 else T.getD j 0
theorem dV_append:∀(c b:List Int),dV (c++b)=dV c+65536^c.length*dV b
 |[],b=>by simp[dV]
 |a::r,b=>by
  have:=dV_append r b
  simp only[List.cons_append,dV,this,q103,q114]
  grind
theorem OutS.fold {T o:List Int}(h:OutS T o 16)(a:T.length=31):dV o=dV (T.take 16)+38*dV (T.drop 16):=by
 obtain⟨h1,h2⟩:=h
 have b:T.drop 16=[T.getD 16 0,T.getD 17 0,T.getD 18 0,T.getD 19 0,T.getD 20 0,T.getD 21 0,T.getD 22 0,T.getD 23 0,T.getD 24 0,T.getD 25 0,T.getD 26 0,T.getD 27 0,T.getD 28 0,T.getD 29 0,T.getD 30 0]:=by
  match T,a with
  |[_,_,_,_,_,_,_,_,_,_,_,_,_,_,_,_,_,_,_,_,_,_,_,_,_,_,_,_,_,_,_],_=>rfl
 have ht:T.take 16=[T.getD 0 0,T.getD 1 0,T.getD 2 0,T.getD 3 0,T.getD 4 0,T.getD 5 0,T.getD 6 0,T.getD 7 0,T.getD 8 0,T.getD 9 0,T.getD 10 0,T.getD 11 0,T.getD 12 0,T.getD 13 0,T.getD 14 0,T.getD 15 0]:=by
  match T,a with
  |[_,_,_,_,_,_,_,_,_,_,_,_,_,_,_,_,_,_,_,_,_,_,_,_,_,_,_,_,_,_,_],_=>rfl
 rw[b,ht,list16 o h1]
 simp only[h2 0 (by omega) (by omega),h2 1 (by omega) (by omega),h2 2 (by omega) (by omega),h2 3 (by omega) (by omega),h2 4 (by omega) (by omega),h2 5 (by omega) (by omega),h2 6 (by omega) (by omega),h2 7 (by omega) (by omega),h2 8 (by omega) (by omega),h2 9 (by omega) (by omega),h2 10 (by omega) (by omega),h2 11 (by omega) (by omega),h2 12 (by omega) (by omega),h2 13 (by omega) (by omega),h2 14 (by omega) (by omega),h2 15 (by omega) (by omega)]
 simp only[Nat.reduceLT,if_true,if_false,Nat.reduceAdd,dV]
 omega
theorem OutS.done {T o:List Int}(h:OutS T o 16)(b:T.length=31):dV o=dV T - 2*pP*dV (T.drop 16):=by
 have a:2*pP=bigM - 38:=by rw[bigM_p];omega
 have e:dV T=dV (T.take 16)+bigM*dV (T.drop 16):=by
  have:=dV_append (T.take 16) (T.drop 16)
  rw[q126,q106,show min 16 T.length=16 from by omega]at this
  exact this
 rw[a,h.fold b,e]
 grind
theorem CZ.sharp {zs b:List Int} {B E:Int}(h:CZ zs b B)(I:E≤1152921504606846976)(D:0≤E)(h1: -E≤dV zs)(h2:dV zs≤bigM+E):∀z∈b,-38≤z∧z≤65573:=by
 obtain⟨f,⟨c,c1,c2,c3,r,q⟩,a⟩:=h
 have C: -1≤c∧c≤1:=by
  have e:=list16 b f
  have A:=a 1 (by omega) (by omega)
  have u:=a 2 (by omega) (by omega)
  have x:=a 3 (by omega) (by omega)
  have t:=a 4 (by omega) (by omega)
  have p:=a 5 (by omega) (by omega)
  have y:=a 6 (by omega) (by omega)
  have l:=a 7 (by omega) (by omega)
  have G:=a 8 (by omega) (by omega)
  have m:=a 9 (by omega) (by omega)
  have F:=a 10 (by omega) (by omega)
  have k:=a 11 (by omega) (by omega)
  have n:=a 12 (by omega) (by omega)
  have v:=a 13 (by omega) (by omega)
  have s:=a 14 (by omega) (by omega)
  have H:=a 15 (by omega) (by omega)
  have j:0≤dV b - 38*c∧dV b - 38*c<bigM:=by
   have d:bigM=115792089237316195423570985008687907853269984665640564039457584007913129639936:=by decide+kernel
   rw[d,e]
   simp only[dV]
   omega
  have d:bigM=115792089237316195423570985008687907853269984665640564039457584007913129639936:=by decide+kernel
  rw[c3,d]at j
  rw[d]at h2
  omega
 refine zds (P:=fun z=> -38≤z∧z≤65573) f (fun i g=>?_)
 rcases q129 i with rfl|h0
 ·omega
 have:=a i h0 g
 omega
theorem CZ.near {zs d:List Int} {B:Int}(h:CZ zs d B)(y:0≤B): -(38*(B / 32768+2))≤dV d∧dV d≤bigM+38*(B / 32768+2):=by
 obtain⟨g,⟨c,c1,c2,c3,p,n⟩,a⟩:=h
 have e:=list16 d g
 have x:=a 1 (by omega) (by omega)
 have s:=a 2 (by omega) (by omega)
 have u:=a 3 (by omega) (by omega)
 have r:=a 4 (by omega) (by omega)
 have m:=a 5 (by omega) (by omega)
 have v:=a 6 (by omega) (by omega)
 have j:=a 7 (by omega) (by omega)
 have A:=a 8 (by omega) (by omega)
 have k:=a 9 (by omega) (by omega)
 have z:=a 10 (by omega) (by omega)
 have i:=a 11 (by omega) (by omega)
 have l:=a 12 (by omega) (by omega)
 have t:=a 13 (by omega) (by omega)
 have q:=a 14 (by omega) (by omega)
 have C:=a 15 (by omega) (by omega)
 have f:bigM=115792089237316195423570985008687907853269984665640564039457584007913129639936:=by decide+kernel
 have D:0≤dV d - 38*c∧dV d - 38*c<115792089237316195423570985008687907853269984665640564039457584007913129639936:=by
  rw[e]
  simp only[dV]
  omega
 rw[f]
 generalize B / 32768=b at*
 omega
theorem rone_el(n:Int)(w:World)(h1: -131072≤n)(h2:n≤131072):
  Calls Tryd.prog 60 #[.int .i64 n] w fun e b=>∃r,e=.returned r∧IsEl r n∧Below w.heap.size w b:=by
 have c:=jh (boxes2 w (ints .i64 (List.replicate 16 0)) (ints .i64 (List.replicate 16 0)) 87 87)
 go_enter Tryd.func60,Tryd.ntmps60
 go_wp2_with (fail)
 refine bodyPost_ret (v:=.agg (ints .i64 [n,0,0,0,0,0,0,0,0,0,0,0,0,0,0,0]).toArray) ?_ rfl ⟨_,rfl,⟨[n,0,0,0,0,0,0,0,0,0,0,0,0,0,0,0],rfl,rfl,fun z a=>?_,0,by simp[dV]⟩,?_⟩
 ·exact zat (by rfl) _ w.heap.size _ _ _ _ (by rfl) ((Blk.made w (ints .i64 [n,0,0,0,0,0,0,0,0,0,0,0,0,0,0,0]) 87).alloc _) Tryd.underlying87 Tryd.arr87
 ·simp at a
  omega
 exact((Below.refl _ _).alloc (q101 _) _).alloc (by simp) _
theorem bound_i64 {z:Int} {i k:Nat}(a:i≤16)(b:k≤16)(h: -((16*(i:Int)+k)*17179869184)≤z∧z≤(16*(i:Int)+k)*17179869184): -4672924418048≤z∧z≤4672924418048:=by omega
theorem OutS.step1 {T o:List Int} {i:Nat}(h:OutS T o i)(a:i<15):OutS T ((o.set i (T.getD i 0)).set i (T.getD i 0+38*T.getD (i+16) 0)) (i+1):=by
 obtain⟨h1,h2⟩:=h
 refine⟨by simp[h1],fun j c b=>?_⟩
 by_cases e:j=i
 ·subst e
  rw[zaj (by simp;omega),if_pos a]
 rw[zae (by omega),zae (by omega)]
 exact h2 j (by omega) b
theorem OutS.step2 {T o:List Int}(h:OutS T o 15):OutS T (o.set 15 (T.getD 15 0)) 16:=by
 obtain⟨h1,h2⟩:=h
 refine⟨by simp[h1],fun j b a=>?_⟩
 by_cases e:j=15
 ·subst e
  rw[zaj (by omega),if_neg (by omega)]
 rw[zae (by omega)]
 exact h2 j (by omega) a
theorem OutS.bnd {T o:List Int}(h:OutS T o 16)(b:∀j,j<31→ -4672924418048≤T.getD j 0∧T.getD j 0≤4672924418048):∀z∈o,-281474976710656≤z∧z≤281474976710656:=by
 refine zds (P:=fun z=> -281474976710656≤z∧z≤281474976710656) h.len (fun i a=>?_)
 rw[h.low i a a]
 have h1:=b i (by omega)
 split
 ·have h2:=b (i+16) (by omega)
  omega
 omega
theorem rmul_any(u v:Value)(x y:Int)(w:World)(hu:IsEl u x)(hv:IsEl v y):
  Calls Tryd.prog 57 #[u,v] w fun e w'=>∃r,e=.returned r∧IsEl r (x*y)∧Below w.heap.size w w':=by
 obtain⟨D,rfl,la,ba,qa,va⟩:=hu
 obtain⟨F,rfl,lb,bb,qb,vb⟩:=hv
 obtain⟨HA,HB,V,X,VA,VB⟩:=jq6 ba bb la lb va vb
 have a5:=jh (boxes4 w (ints .i64 D) (ints .i64 F) (ints .i64 (List.replicate 16 0)) (ints .i64 (List.replicate 31 0)) 87 87 87 125)
 clear ba bb la lb va vb
 go_enter Tryd.func57,Tryd.ntmps57
 go_wp2_with fail
 change Code.wp _ _ _ _ ((((w.alloc (.cells (ints .i64 D).toArray 87)).alloc (.cells (ints .i64 F).toArray 87)).alloc (.cells (ints .i64 (List.replicate 16 0)).toArray 87)).alloc (.cells (ints .i64 (List.replicate 31 0)).toArray 125))
 generalize (((w.alloc (.cells (ints .i64 D).toArray 87)).alloc (.cells (ints .i64 F).toArray 87)).alloc (.cells (ints .i64 (List.replicate 16 0)).toArray 87)).alloc (.cells (ints .i64 (List.replicate 31 0)).toArray 125)=w0 at*
 obtain⟨h1,h2,S,h4,h5⟩:=a5.o
 obtain⟨A,hA⟩:=nxq w.heap.size
 rw[←hA]at h1 h2 S h4⊢
 have bf:w.heap.size≤A:=by omega
 obtain⟨B,C,f,m,g⟩:=jq5 h1 h2 S h4 h5
 clear h1 h2 S h4 h5 a5 hA
 go_loopw [6] (fun i wr=>∃(k:Nat) (T:List Int),k≤16∧i=.int .i64 k∧MulS D F T k 0∧Blk wr A (ints .i64 D) 87∧Blk wr (A+1) (ints .i64 F) 87∧Blk wr (A+1+1) (ints .i64 (List.replicate 16 0)) 87∧Blk wr (A+1+1+1) (ints .i64 T) 125∧Below w.heap.size w wr) (fun i _=>16 - (intOf i).toNat)
 case atStart=>exact⟨0,_,by omega,rfl,MulS.start,B.o,C.o,f.o,m.o,g.o⟩
 case round=>
  clear B C f m g
  obtain⟨i,s,hi,rfl,K,q,p,n,d,h⟩:=hrel
  have bg:(0:Int)≤(i:Int):=Int.natCast_nonneg _
  by_cases ad:i<16
  ·have i1:(i:Int)<16:=by omega
   obtain⟨B,C,f,m,g,H6⟩:=jq6 q p n d h K
   clear q p n d h K
   go_wp2_with fail
   obtain⟨wo,rfl⟩:=nxq wr
   go_loopw [7] (fun j wr=>∃(k:Nat) (T:List Int),k≤16∧j=.int .i64 k∧MulS D F T i k∧Blk wr A (ints .i64 D) 87∧Blk wr (A+1) (ints .i64 F) 87∧Blk wr (A+1+1) (ints .i64 (List.replicate 16 0)) 87∧Blk wr (A+1+1+1) (ints .i64 T) 125∧Below w.heap.size w wr) (fun j _=>16 - (intOf j).toNat)
   case atStart=>exact⟨0,s,by omega,rfl,H6.o,B.o,C.o,f.o,m.o,g.o⟩
   case round=>
    clear B C f m g H6
    obtain⟨k,T,hk,rfl,J,q,p,n,d,h⟩:=hrel
    have b5:(0:Int)≤(k:Int):=Int.natCast_nonneg _
    by_cases ah:k<16
    ·have j1:(k:Int)<16:=by omega
     have e1:=q.cell i
     rw[zav (by have:=V.o;omega)]at e1
     have e2:=p.cell k
     rw[zav (by have:=X.o;omega)]at e2
     have e3:=d.cell (i+k)
     rw[zav (by have:=J.len;omega)]at e3
     have f3:=d.free (i+k)
     have H:=J.step ad ah HA.o HB.o V.o X.o
     have M:=zcb (P:=fun z=> -131072≤z∧z≤131072) HA.o (i:=i) (by have:=V.o;omega)
     have Q:=zcb (P:=fun z=> -131072≤z∧z≤131072) HB.o (i:=k) (by have:=X.o;omega)
     have b3:=bound_i64 (by omega) (by omega) (J.bnd (i+k) (by omega))
     have b4:=prod_bound M.1 M.2 Q.1 Q.2
     generalize D.getD i 0=a at*
     generalize F.getD k 0=b at*
     generalize T.getD (i+k) 0=t at*
     obtain⟨ax,b9⟩:=b3
     obtain⟨bd,b7⟩:=b4
     have s1:IntKind.i64.wrap ((i:Int)+(k:Int))=(i:Int)+k:=IntWalk.i64_in _ (by omega)
     have s2:((i:Int)+(k:Int)).toNat=i+k:=by omega
     have s3:(0:Int)≤(i:Int)+(k:Int):=by omega
     have s4:(i:Int)+(k:Int)<31:=by omega
     have W1:Hid (wrap64 (a*b)=a*b):=jh (by rw[←IntWalk.i64_left];exact IntWalk.i64_in _ (by omega))
     have W2:Hid (wrap64 (t+a*b)=t+a*b):=jh (by rw[←IntWalk.i64_left];exact IntWalk.i64_in _ (by omega))
     obtain⟨U,B,C,f,m,g⟩:=jq6 H q p n d h
     clear q p n d h H J M Q ax b9 bd b7
     go_wp2_with fail
     go_region
     go_wp2_with fail
     go_roundw
     case rel=>
      rw[W1.o,W2.o]
      refine⟨k+1,_,by omega,by go_num,U.o,B.o.far (by simp;omega) _,C.o.far (by simp;omega) _,f.o.far (by simp) _,?_,(g.o.setCell (by simp;omega) _).drew⟩
      rw[←zbp]
      exact m.o.set (i+k) _
     case measure=>simp[intOf];omega
    have a3:k=16:=by omega
    subst a3
    have a8:=J.next ad V.o X.o
    obtain⟨B,C,f,m,g,ao⟩:=jq6 q p n d h a8
    clear q p n d h J a8
    go_wp2_with fail
    go_roundw
    case rel=>exact⟨i+1,T,by omega,by go_num,ao.o,B.o,C.o,f.o,m.o,g.o⟩
    case measure=>simp[intOf];omega
  have au:i=16:=by omega
  subst au
  have ak:=K.len
  have ae:∀j,j<31→ -4672924418048≤s.getD j 0∧s.getD j 0≤4672924418048:=fun j hj=>bound_i64 (i:=16) (k:=0) (by omega) (by omega) (K.bnd j hj)
  have Y:=K.val
  rw[q105 (l:=D) (by have:=V.o;omega),List.take_zero]at Y
  simp only[dV,Int.mul_zero,Int.zero_mul,Int.add_zero]at Y
  obtain⟨a2,W,b0⟩:=jq3 ak ae Y
  obtain⟨O,hO⟩:=nxq wr.heap.size
  have bh:A+1+1+1<O:=by have:=d.lt;omega
  have a4:=jh (Blk.made wr (ints .i64 (List.replicate 16 0)) 87)
  rw[←hO]at a4
  obtain⟨f,m,g⟩:=jq3 (n.alloc (.cells (ints .i64 (List.replicate 16 0)).toArray 87)) (d.alloc (.cells (ints .i64 (List.replicate 16 0)).toArray 87)) (h.alloc h.size (.cells (ints .i64 (List.replicate 16 0)).toArray 87))
  clear q p n d h K ak ae Y
  go_wp2_with fail
  rw[←hO]
  change Code.wp _ _ _ _ (wr.alloc (.cells (ints .i64 (List.replicate 16 0)).toArray 87))
  generalize wr.alloc (.cells (ints .i64 (List.replicate 16 0)).toArray 87)=w2 at*
  clear hO
  obtain⟨wo,rfl⟩:=nxq wr
  go_loopw [9] (fun j wr=>∃(k:Nat) (o:List Int),k≤16∧j=.int .i64 k∧OutS s o k∧Blk wr (A+1+1) (ints .i64 (List.replicate 16 0)) 87∧Blk wr (A+1+1+1) (ints .i64 s) 125∧Blk wr O (ints .i64 o) 87∧Below w.heap.size w wr) (fun j _=>16 - (intOf j).toNat)
  case atStart=>exact⟨0,_,by omega,rfl,⟨rfl,fun j hj=>by omega⟩,f.o,m.o,a4.o,g.o⟩
  case round=>
   clear f m g a4
   obtain⟨k,o,hk,rfl,G,n,d,I,h⟩:=hrel
   have b5:(0:Int)≤(k:Int):=Int.natCast_nonneg _
   have N:=G.len
   by_cases ah:k<16
   ·have j1:(k:Int)<16:=by omega
    have e1:=d.cell k
    rw[zav (by have:=a2.o;omega)]at e1
    have e2:=I.cell k
    rw[zav (by omega)]at e2
    have f2:=I.free k
    have M:=W.o k (by omega)
    by_cases av:k<15
    ·have e3:=d.cell (k+16)
     rw[zav (by have:=a2.o;omega)]at e3
     have Q:=W.o (k+16) (by omega)
     have H:=G.step1 av
     generalize s.getD k 0=a at*
     generalize s.getD (k+16) 0=b at*
     obtain⟨bc,al⟩:=M
     obtain⟨ar,aw⟩:=Q
     have s1:IntKind.i64.wrap ((k:Int)+16)=(k:Int)+16:=IntWalk.i64_in _ (by omega)
     have s2:((k:Int)+16).toNat=k+16:=by omega
     have s3:(0:Int)≤(k:Int)+16:=by omega
     have s4:(k:Int)+16<31:=by omega
     have j2:(k:Int)<15:=by omega
     have W1:Hid (wrap64 (38*b)=38*b):=jh (by rw[←IntWalk.i64_left];exact IntWalk.i64_in _ (by omega))
     have W2:Hid (wrap64 (a+38*b)=a+38*b):=jh (by rw[←IntWalk.i64_left];exact IntWalk.i64_in _ (by omega))
     obtain⟨U,f,m,g,R⟩:=jq5 H n d h I
     clear n d I h H G bc al ar aw N
     go_wp2_with fail
     go_region
     go_wp2_with fail
     go_roundw
     case rel=>
      rw[W1.o,W2.o]
      refine⟨k+1,_,by omega,by go_num,U.o,(f.o.far (by simp;omega) _).far (by simp;omega) _,(m.o.far (by simp;omega) _).far (by simp;omega) _,?_,((g.o.setCell (by simp;omega) _).setCell (by simp;omega) _).drew⟩
      rw[←zbp,←zbp]
      exact(R.o.set k _).set k _
     case measure=>simp[intOf];omega
    have ap:k=15:=by omega
    subst ap
    have H:=G.step2
    generalize s.getD 15 0=a at*
    obtain⟨U,f,m,g,R⟩:=jq5 H n d h I
    clear n d I h H G M N
    go_wp2_with fail
    go_roundw
    case rel=>
     refine⟨16,_,by omega,by go_num,U.o,f.o.far (by simp;omega) _,m.o.far (by simp;omega) _,?_,g.o.setCell (by simp;omega) _⟩
     rw[←zbp]
     exact R.o.set 15 _
    case measure=>simp[intOf]
   have a3:k=16:=by omega
   subst a3
   have aj:=G.done a2.o
   have aa:=G.bnd W.o
   obtain⟨f,g,R,HD⟩:=jq4 n h I aj
   have an:Hid ((Tryd.prog.info? 87).map (·.size)=some (ints .i64 o).length):=jh (by rw[zaa,N];exact Tryd.arr87)
   have HC:=jh (carry_any o 281474976710656 wr N aa (by omega) (by omega))
   clear n d I h G N aj aa
   go_wp2_with (refine zar rfl _ _ rfl O rfl _ _ _ _ R.o Tryd.underlying87 an.o ?_)
   refine HC.o.mono ?_
   rintro e w5 ⟨z1,rfl,L,a0⟩
   have ag:=L.near (by omega)
   have ai:∀z∈z1,-1099511627776≤z∧z≤1099511627776:=zds (P:=fun z=> -1099511627776≤z∧z≤1099511627776) L.len (fun i hi=>by
    obtain⟨_,⟨c,c1,c2,_,c4,c5⟩,S⟩:=L
    rcases q129 i with rfl|h0
    ·omega
    have:=S i h0 hi
    omega)
   have az:=jh (carry_any z1 1099511627776 w5 L.len ai (by omega) (by omega))
   have a6:=jh (f.o.same (a0.block _ f.o.lt))
   obtain⟨ab,b8,ac⟩:=jq3 (g.o.trans (a0.mono g.o.size)) L ag
   clear a0 L ag ai
   go_wp2_with fail
   refine az.o.mono ?_
   rintro e w6 ⟨z2,rfl,Z,a1⟩
   have aq:=jh (a6.o.same (a1.block _ a6.o.lt))
   have af:=jh (ab.o.trans (a1.mono ab.o.size))
   have a9:Hid ((Tryd.prog.info? 87).map (·.size)=some (ints .i64 z2).length):=jh (by rw[zaa,Z.len];exact Tryd.arr87)
   have be:Hid ((ints .i64 z2).length=(ints .i64 (List.replicate 16 0)).length):=jh (by rw[zaa,zaa,Z.len];rfl)
   have a7:=jh Z
   clear a1 Z
   go_wp2_with (refine zah rfl _ _ _ rfl (A+1+1) _ rfl rfl _ _ aq.o be.o a9.o (zai _ _) ?_;intro w7 ay b6)
   obtain⟨_,⟨c1,_,_,v1,_,_⟩,_⟩:=b8.o
   obtain⟨am,⟨c2,_,_,v2,_,_⟩,_⟩:=id a7.o
   refine bodyPost_ret (v:=.agg (ints .i64 z2).toArray) (zat (by rfl) _ (A+1+1) _ _ _ _ (by rfl) ay Tryd.underlying87 a9.o) rfl ⟨_,rfl,⟨z2,rfl,am,fun z hz=>?_,qa*y+qb*x+qa*qb*pP - 2*dV (s.drop 16) - 2*c1 - 2*c2,?_⟩,af.o.grown b6 af.o.size (fun r hr=>by cases hr;omega)⟩
   ·have:=a7.o.sharp (E:=1152921504606846976) (by omega) (by omega) (by have:=ac.o.1;omega) (by have:=ac.o.2;omega) z hz
    omega
   rw[v2,v1,HD.o,b0.o,VA.o,VB.o,bigM_p]
   grind
theorem bigM_lit:bigM=115792089237316195423570985008687907853269984665640564039457584007913129639936:=by decide+kernel
theorem dV_range {zs:List Int}(a:zs.length=16)(h:∀i,i<16→0≤zs.getD i 0∧zs.getD i 0≤65535):0≤dV zs∧dV zs<bigM:=by
 have k:=h 0 (by omega)
 have g:=h 1 (by omega)
 have s:=h 2 (by omega)
 have e:=h 3 (by omega)
 have r:=h 4 (by omega)
 have p:=h 5 (by omega)
 have f:=h 6 (by omega)
 have l:=h 7 (by omega)
 have j:=h 8 (by omega)
 have m:=h 9 (by omega)
 have c:=h 10 (by omega)
 have d:=h 11 (by omega)
 have n:=h 12 (by omega)
 have b:=h 13 (by omega)
 have q:=h 14 (by omega)
 have t:=h 15 (by omega)
 rw[list16 zs a,bigM_lit]
 simp only[dV]
 omega
theorem CZ.inner {zs a:List Int} {B:Int}(h:CZ zs a B):∃c,-(B / 32768+2)≤c∧c≤B / 32768+2∧dV a=dV zs - (bigM - 38)*c∧0≤dV a - 38*c∧dV a - 38*c<bigM∧0≤a.getD 0 0 - 38*c∧a.getD 0 0 - 38*c≤65535:=by
 obtain⟨j,⟨c,c1,c2,c3,d,b⟩,f⟩:=h
 have e:=dV_range (zs:=a.set 0 (a.getD 0 0 - 38*c)) (by simp[j]) (fun i g=>by
  rcases q129 i with rfl|h0
  ·rw[zaj (by omega)]
   exact⟨d,b⟩
  rw[zae (by omega)]
  exact f i h0 g)
 rw[dV_set _ _ _ (by omega)]at e
 simp only[Int.pow_zero,Int.mul_one]at e
 exact⟨c,c1,c2,c3,by omega,by omega,d,b⟩
theorem CZ.second {zs a:List Int} {B E:Int}(h:CZ zs a B)(e:E≤1152921504606846976)(h1: -E≤dV zs)(h2:dV zs≤bigM+E):0≤dV a∧dV a<bigM:=by
 obtain⟨c,c1,c2,c3,d,b,_,_⟩:=h.inner
 rw[c3]at d b⊢
 rw[bigM_lit]at*
 omega
theorem CZ.tidy {zs a:List Int} {B:Int}(h:CZ zs a B)(h1:0≤dV zs)(h2:dV zs<bigM):dV a=dV zs∧∀i,i<16→0≤a.getD i 0∧a.getD i 0≤65535:=by
 obtain⟨c,c1,c2,c3,e,d,j,g⟩:=h.inner
 have f:c=0:=by
  rw[c3]at e d
  rw[bigM_lit]at*
  omega
 subst f
 refine⟨by rw[c3];omega,fun i b=>?_⟩
 rcases q129 i with rfl|h0
 ·omega
 exact h.low i h0 b
def pL:List Int:=[65517,65535,65535,65535,65535,65535,65535,65535,65535,65535,65535,65535,65535,65535,65535,32767]
theorem dV_pL:dV pL=pP:=by decide+kernel
theorem dV_take_set {zs:List Int} {i k:Nat} {z:Int}(a:i<k)(b:k≤zs.length):dV ((zs.set i z).take k)=dV (zs.take k)+(z - zs.getD i 0)*65536^i:=by
 rw[List.take_set,dV_set _ _ _ (by simp;omega)]
 congr 3
 simp[List.getD,a]
theorem dV_take_far {zs:List Int} {i k:Nat} {z:Int}(a:k≤i):dV ((zs.set i z).take k)=dV (zs.take k):=by
 rw[List.take_set]
 rw[List.set_eq_of_length_le (by simp;omega)]
theorem and1 {t:Int}(h:t=-1∨t=0):bits .and .i64 t 1=-t:=by
 rcases h with rfl|rfl<;>decide
theorem and16(n:Int):bits .and .i64 n 65535=n%65536:=by
 have h:(BitVec.ofInt 64 65535).toNat=2^16 - 1:=by decide
 have key:(BitVec.ofInt 64 n &&& BitVec.ofInt 64 65535).toNat=(n%((2^64:Nat):Int)).toNat%2^16:=by
  rw[BitVec.toNat_and,BitVec.toNat_ofInt,h,q124]
 show IntKind.i64.wrap ((BitVec.ofInt 64 n &&& BitVec.ofInt 64 65535).toNat:Nat)=n%65536
 rw[key,IntKind.wrap_i64]
 omega
theorem and8(n:Int):bits .and .i64 n 255=n%256:=by
 have a:(BitVec.ofInt 64 255).toNat=2^8 - 1:=by decide
 have key:(BitVec.ofInt 64 n &&& BitVec.ofInt 64 255).toNat=(n%((2^64:Nat):Int)).toNat%2^8:=by
  rw[BitVec.toNat_and,BitVec.toNat_ofInt,a,q124]
 show IntKind.i64.wrap ((BitVec.ofInt 64 n &&& BitVec.ofInt 64 255).toNat:Nat)=n%256
 rw[key,IntKind.wrap_i64]
 omega
structure SubP(a m:List Int)(i:Nat):Prop where
 len:m.length=16
 val:dV (m.take (i+1))=dV (a.take (i+1)) - dV (pL.take (i+1))
 low:∀j,j<i→0≤m.getD j 0∧m.getD j 0≤65535
 top: -65536≤m.getD i 0∧m.getD i 0≤65535
theorem SubP.start {a m:List Int}(b:m.length=16)(c:a.length=16)(h0:0≤a.getD 0 0∧a.getD 0 0≤65535):SubP a (m.set 0 (a.getD 0 0 - 65517)) 0:=by
 refine⟨by simp[b],?_,fun j d=>by omega,?_⟩
 ·rw[dV_take_set (by omega) (by omega),zcj m 0 (by omega),zcj a 0 (by omega)]
  simp only[List.take_zero,pL,q138,dV]
  omega
 rw[zaj (by omega)]
 omega
theorem SubP.step {a m:List Int} {i:Nat} {P:Int}(h:SubP a m i)(g:i<15)(k:a.length=16)(h1:0≤a.getD (i+1) 0∧a.getD (i+1) 0≤65535)(d:pL.getD (i+1) 0=P)(p:0≤P)(n:P≤65535):
  SubP a ((m.set (i+1) (a.getD (i+1) 0 - P - bits .and .i64 (m.getD i 0 / 65536) 1)).set i (bits .and .i64 (m.getD i 0) 65535)) (i+1):=by
 obtain⟨c,h2,b,l⟩:=h
 have q:pL.length=16:=rfl
 rw[and16,and1 (by omega)]
 refine⟨by simp[c],?_,fun j f=>?_,?_⟩
 ·rw[dV_take_set (by omega) (by simp;omega),zae (by omega),zcj _ (i+1) (by simp;omega),dV_take_far (by omega),zaj (by omega),h2,zcj a (i+1) (by omega),zcj pL (i+1) (by omega),d,q114]
  have e:m.getD i 0%65536=m.getD i 0 - m.getD i 0 / 65536*65536:=by omega
  rw[e]
  generalize (65536:Int)^i=X
  grind
 ·by_cases e:j=i
  ·subst e
   rw[zaj (by simp;omega)]
   omega
  rw[zae (by omega),zae (by omega)]
  exact b j (by omega)
 rw[zae (by omega),zaj (by omega)]
 omega
theorem SubP.done {a m:List Int}(h:SubP a m 15)(C:a.length=16):dV m=dV a - pP∧(0≤m.getD 15 0↔pP≤dV a)∧(0≤m.getD 15 0→∀i,i<16→0≤m.getD i 0∧m.getD i 0≤65535):=by
 obtain⟨f,h2,b,D⟩:=h
 rw[q105 (by omega),q105 (by omega),q105 (by simp[pL]),dV_pL]at h2
 refine⟨h2,?_,fun h i B=>?_⟩
 ·have e:=list16 m f
  have y:=b 0 (by omega)
  have x:=b 1 (by omega)
  have s:=b 2 (by omega)
  have u:=b 3 (by omega)
  have r:=b 4 (by omega)
  have n:=b 5 (by omega)
  have v:=b 6 (by omega)
  have j:=b 7 (by omega)
  have A:=b 8 (by omega)
  have k:=b 9 (by omega)
  have z:=b 10 (by omega)
  have g:=b 11 (by omega)
  have l:=b 12 (by omega)
  have t:=b 13 (by omega)
  have q:=b 14 (by omega)
  have d:dV m=dV a - pP:=h2
  rw[e]at d
  simp only[dV]at d
  generalize dV a=V at*
  generalize pP=p at*
  constructor<;>intro h<;>omega
 rcases q108 i 15 with c|c
 ·exact b i c
 obtain rfl:i=15:=by omega
 omega
def bndK(k:Nat):Int:=if k=0 then bigM else if k=1 then pP+38 else pP
structure OutR(x:Int)(zs:List Int)(k:Nat):Prop where
 len:zs.length=16
 dig:∀i,i<16→0≤zs.getD i 0∧zs.getD i 0≤65535
 val:∃q,dV zs=x+pP*q
 bnd:0≤dV zs∧dV zs<bndK k
theorem OutR.keep {x:Int} {zs:List Int} {k:Nat}(h:OutR x zs k)(c:k<3)(f:¬pP≤dV zs):OutR x zs (k+1):=by
 obtain⟨h1,h2,a,b,d⟩:=h
 refine⟨h1,h2,a,b,?_⟩
 have e:(0:Int)<pP:=by decide+kernel
 unfold bndK
 rw[if_neg (by omega)]
 split<;>omega
theorem OutR.less {x:Int} {zs a:List Int} {k:Nat}(h:OutR x zs k)(l:k<3)(d:a.length=16)(e:∀i,i<16→0≤a.getD i 0∧a.getD i 0≤65535)(c:dV a=dV zs - pP)(r:pP≤dV zs):OutR x a (k+1):=by
 obtain⟨h1,h2,⟨q,b⟩,g,j⟩:=h
 refine⟨d,e,⟨q - 1,by rw[c,b];grind⟩,by omega,?_⟩
 have n:=bigM_p
 have m:(0:Int)<pP:=by decide+kernel
 unfold bndK at*
 rw[if_neg (by omega)]
 have f:(38:Int)<pP:=by decide+kernel
 generalize pP=p at*
 generalize bigM=M at*
 rcases(by omega:k=0∨k=1∨k=2)with rfl|rfl|rfl
 ·simp at*
  omega
 ·simp at*
  omega
 simp at*
 omega
theorem OutR.start {x g:Int} {i z1 z2 c d:List Int}(k:dV i=x+pP*g)(h1:CZ i z1 131072)(h2:CZ z1 z2 131072)(j:CZ z2 c 131072)(h:CZ c d 131072):OutR x d 0:=by
 obtain⟨_,l,n⟩:=h1.el (by omega)
 obtain⟨_,p,q⟩:=h2.el (by omega)
 have e:=h1.near (by omega)
 have a:=h2.second (E:=1152921504606846976) (by omega) (by have:=e.1;omega) (by have:=e.2;omega)
 obtain⟨b,_⟩:=j.tidy a.1 a.2
 obtain⟨f,m⟩:=h.tidy (by rw[b];exact a.1) (by rw[b];exact a.2)
 refine⟨h.len,m,⟨g+l+p,?_⟩,?_⟩
 ·rw[f,b,q,n,k]
  grind
 rw[f,b]
 exact a
structure OutB(zs bs:List Int)(k:Nat):Prop where
 len:bs.length=32
 low:∀j,j<k→bs.getD (2*j) 0=zs.getD j 0%256∧bs.getD (2*j+1) 0=zs.getD j 0 / 256%256
theorem OutB.step {zs a:List Int} {k:Nat}(h:OutB zs a k)(c:k<16):OutB zs ((a.set (2*k) (bits .and .i64 (zs.getD k 0) 255%256)).set (2*k+1) (bits .and .i64 (zs.getD k 0 / 256) 255%256)) (k+1):=by
 obtain⟨h1,h2⟩:=h
 refine⟨by simp[h1],fun j b=>?_⟩
 rw[and8,and8,Int.emod_emod,Int.emod_emod]
 by_cases e:j=k
 ·subst e
  rw[zae (by omega),zaj (by omega),zaj (by simp;omega)]
  exact⟨rfl,rfl⟩
 rw[zae (by omega),zae (by omega),zae (by omega),zae (by omega)]
 exact h2 j (by omega)
theorem OutB.done {x:Int} {zs a:List Int}(h:OutB zs a 16)(d:OutR x zs 3):ints .u8 a=(bytesN 32 (x%pP).toNat).map bval:=by
 obtain⟨h1,h2⟩:=h
 have c:∀i,i<32→0≤a.getD i 0∧a.getD i 0≤255:=fun i b=>by
  have:=h2 (i / 2) (by omega)
  rcases(by omega:i=2*(i / 2)∨i=2*(i / 2)+1)with e|e
  ·rw[e,this.1]
   omega
  rw[e,this.2]
  omega
 have f:∀i,i<32→((a.map fun z=>UInt8.ofNat z.toNat).getD i 0).toNat=(a.getD i 0).toNat:=fun i b=>by
  have:=c i b
  have e:(a.map fun z=>UInt8.ofNat z.toNat).getD i 0=UInt8.ofNat (a.getD i 0).toNat:=by simp[List.getD,show i<a.length from by omega]
  rw[e,UInt8.toNat_ofNat']
  omega
 have k:dV zs=leN (a.map fun z=>UInt8.ofNat z.toNat):=dV_pairs zs _ d.len (by simp[h1]) (fun i b=>by
  unfold pairAt
  rw[f _ (by omega),f _ (by omega),(h2 i b).1,(h2 i b).2]
  have:=d.dig i b
  omega)
 have j:x%pP=dV zs:=by
  obtain⟨q,l⟩:=d.val
  have c:=d.bnd
  have:bndK 3=pP:=rfl
  rw[this]at c
  have e:x=dV zs+pP*(-q):=by rw[l];grind
  rw[e,Int.add_mul_emod_self_left]
  exact q132 c.1 c.2
 rw[j,k,Int.toNat_natCast]
 have:=bytesN_leN (a.map fun z=>UInt8.ofNat z.toNat)
 rw[q100,h1]at this
 rw[this,List.map_map]
 unfold ints
 refine List.map_congr_left (fun z g=>?_)
 have m:=(zds (P:=fun z=>0≤z∧z≤255) h1 c) z g
 simp only[Function.comp,bval]
 congr 1
 rw[UInt8.toNat_ofNat']
 omega
theorem rout_any(v:Value)(x:Int)(w:World)(hv:IsEl v x):
  Calls Tryd.prog 56 #[v] w fun e w'=>e=.returned (.agg ((bytesN 32 (x%pP).toNat).map bval).toArray)∧Below w.heap.size w w':=by
 obtain⟨D,rfl,T,ba,qa,va⟩:=hv
 obtain⟨LA,VA,Z⟩:=jq3 T va (boxes2 w (ints .i64 D) (ints .u8 (List.replicate 32 0)) 87 23)
 have aq:Hid ((Tryd.prog.info? 87).map (·.size)=some (ints .i64 D).length):=jh (by rw[zaa,T];exact Tryd.arr87)
 have HC:=jh (carry_any D 131072 ((w.alloc (.cells (ints .i64 D).toArray 87)).alloc (.cells (ints .u8 (List.replicate 32 0)).toArray 23)) T ba (by omega) (by omega))
 have BA:=jh ba
 clear T ba va
 go_enter Tryd.func56,Tryd.ntmps56
 go_wp2_with (refine zar rfl _ _ rfl w.heap.size rfl _ _ _ _ Z.o.1 Tryd.underlying87 aq.o ?_)
 change Calls _ _ _ ((w.alloc (.cells (ints .i64 D).toArray 87)).alloc (.cells (ints .u8 (List.replicate 32 0)).toArray 23)) _
 generalize (w.alloc (.cells (ints .i64 D).toArray 87)).alloc (.cells (ints .u8 (List.replicate 32 0)).toArray 23)=w0 at*
 obtain⟨h1,h2,h3⟩:=Z.o
 obtain⟨A,hA⟩:=nxq w.heap.size
 rw[←hA]at h1 h2⊢
 have bk:w.heap.size≤A:=by omega
 obtain⟨l,f,d⟩:=jq3 h1 h2 h3
 clear h1 h2 h3 Z hA
 refine HC.o.mono ?_
 rintro e w1 ⟨z1,rfl,R,b⟩
 have ay:=jh (carry_any z1 131072 w1 R.len (R.el (by omega)).1 (by omega) (by omega))
 obtain⟨aw,a9⟩:=jq2 R b
 clear R b
 go_wp2_with fail
 refine ay.o.mono ?_
 rintro e w2 ⟨z2,rfl,Y,c⟩
 have ao:=jh (carry_any z2 131072 w2 Y.len (Y.el (by omega)).1 (by omega) (by omega))
 obtain⟨aj,a4⟩:=jq2 Y (a9.o.trans (c.mono a9.o.size))
 clear Y c
 go_wp2_with fail
 refine ao.o.mono ?_
 rintro e w3 ⟨z3,rfl,Q,b5⟩
 have ap:=jh (carry_any z3 131072 w3 Q.len (Q.el (by omega)).1 (by omega) (by omega))
 obtain⟨b2,ac⟩:=jq2 Q (a4.o.trans (b5.mono a4.o.size))
 clear Q b5
 go_wp2_with fail
 refine ap.o.mono ?_
 rintro e w4 ⟨z4,rfl,S,am⟩
 have V:=ac.o.trans (am.mono ac.o.size)
 have an:=OutR.start VA.o aw.o aj.o b2.o S
 have b3:=jh (l.o.same (V.block _ l.o.lt))
 have ax:=jh (f.o.same (V.block _ f.o.lt))
 have ad:=jh (d.o.trans (V.mono d.o.size))
 have al:Hid ((Tryd.prog.info? 87).map (·.size)=some (ints .i64 z4).length):=jh (by rw[zaa,S.len];exact Tryd.arr87)
 have b6:Hid ((ints .i64 z4).length=(ints .i64 D).length):=jh (by rw[zaa,zaa,S.len,LA.o])
 have s:=jh an
 clear S am V an
 go_wp2_with (refine zah rfl _ _ _ rfl A _ rfl rfl _ _ b3.o b6.o al.o (zai _ _) ?_;intro w5 af ab)
 have b7:=jh af
 have b4:=jh (ax.o.grown ab (by simp))
 have ai:=jh (ad.o.grown ab ad.o.size (fun r K=>by cases K;omega))
 clear af ab
 go_loopw [3] (fun i wr=>∃(k:Nat) (zs:List Int),k≤3∧i=.int .i64 k∧OutR x zs k∧Blk wr A (ints .i64 zs) 87∧Blk wr (A+1) (ints .u8 (List.replicate 32 0)) 23∧Below w.heap.size w wr) (fun i _=>3 - (intOf i).toNat)
 case atStart=>exact⟨0,z4,by omega,rfl,s.o,b7.o,b4.o,ai.o⟩
 case round=>
  clear l f d HC a9 a4 ac aw aj b2 b3 ax ad b7 b4 ai ay ao ap al b6 s aq VA LA BA
  obtain⟨k,zs,hk,rfl,C,b,c,g⟩:=hrel
  have bn:(0:Int)≤(k:Int):=Int.natCast_nonneg _
  by_cases av:k<3
  ·have i1:(k:Int)<3:=by omega
   obtain⟨M,hM⟩:=nxq wr.heap.size
   have bp:A+1<M:=by have:=c.lt;omega
   have z:=Blk.made wr (ints .i64 ((List.replicate 16 0).set 0 (zs.getD 0 0 - 65517))) 87
   rw[←hM]at z
   have e0:(wr.alloc (.cells #[.int .i64 0,.int .i64 0,.int .i64 0,.int .i64 0,.int .i64 0,.int .i64 0,.int .i64 0,.int .i64 0,.int .i64 0,.int .i64 0,.int .i64 0,.int .i64 0,.int .i64 0,.int .i64 0,.int .i64 0,.int .i64 0] 87)).cell? ⟨A,0,none⟩=some (.int .i64 (zs.getD 0 0)):=by
    have:=(b.alloc (.cells (ints .i64 (List.replicate 16 0)).toArray 87)).cell 0
    rw[zav (by have:=C.len;omega)]at this
    exact this
   have d0:=C.dig 0 (by omega)
   have q:=SubP.start (m:=List.replicate 16 0) rfl C.len d0
   obtain⟨l,f,d,n,G,s⟩:=jq6 (b.alloc (.cells (ints .i64 ((List.replicate 16 0).set 0 (zs.getD 0 0 - 65517))).toArray 87)) (c.alloc (.cells (ints .i64 ((List.replicate 16 0).set 0 (zs.getD 0 0 - 65517))).toArray 87)) (g.alloc g.size (.cells (ints .i64 ((List.replicate 16 0).set 0 (zs.getD 0 0 - 65517))).toArray 87)) z q C
   generalize zs.getD 0 0=a0 at*
   clear b c g z q C
   go_wp2_with fail
   rw[←hM]
   change Code.wp _ _ _ _ (wr.alloc (.cells (ints .i64 ((List.replicate 16 0).set 0 (a0 - 65517))).toArray 87))
   generalize wr.alloc (.cells (ints .i64 ((List.replicate 16 0).set 0 (a0 - 65517))).toArray 87)=w6 at*
   clear hM e0 d0
   obtain⟨wo,rfl⟩:=nxq wr
   go_loopw [5] (fun i wr=>∃(j:Nat) (t:List Int),j≤14∧i=.int .i64 ((j+1:Nat):Int)∧SubP zs t j∧Blk wr A (ints .i64 zs) 87∧Blk wr (A+1) (ints .u8 (List.replicate 32 0)) 23∧Blk wr M (ints .i64 t) 87∧Below w.heap.size w wr) (fun i _=>16 - (intOf i).toNat)
   case atStart=>exact⟨0,_,by omega,rfl,G.o,l.o,f.o,n.o,d.o⟩
   case round=>
    clear l f d n G
    obtain⟨j,t,hj,rfl,B,b,c,p,g⟩:=hrel
    have u:=s.o.len
    have ag:=B.len
    have bh:(0:Int)≤(j:Int):=Int.natCast_nonneg _
    by_cases aa:j<14
    ·have J:=b.cell (j+1)
     rw[zav (by omega)]at J
     have L:=p.cell j
     rw[zav (by omega)]at L
     have O:=p.cell (j+1)
     rw[zav (by omega)]at O
     have f2:=p.free j
     have f3:=p.free (j+1)
     have I:=s.o.dig (j+1) (by omega)
     have az:pL.getD (j+1) 0=65535:=by
      have:∀j,j<14→pL.getD (j+1) 0=65535:=by decide+kernel
      exact this j aa
     have q:=B.step (by omega) u I az (by omega) (by omega)
     have ht:=B.top
     generalize zs.getD (j+1) 0=a at*
     generalize t.getD j 0=m at*
     obtain⟨be,bj⟩:=I
     obtain⟨bc,bd⟩:=ht
     have s1:IntKind.i64.wrap ((j:Int)+1 - 1)=(j:Int):=IntWalk.i64_in _ (by omega)|>.trans (by omega)
     have s2:((j:Int)+1 - 1)=(j:Int):=by omega
     have s3:((j:Int)+1).toNat=j+1:=by omega
     have s4:(0:Int)≤(j:Int)+1:=by omega
     have s5:(j:Int)+1<16:=by omega
     have s6:(j:Int)<16:=by omega
     have F:bits .and .i64 (m / 65536) 1=-(m / 65536):=and1 (by omega)
     have W1:Hid (wrap64 (a - 65535 - bits .and .i64 (m / 65536) 1)=a - 65535 - bits .and .i64 (m / 65536) 1):=jh (by rw[←IntWalk.i64_left];exact IntWalk.i64_in _ (by rw[F];omega))
     obtain⟨G,l,f,d,n⟩:=jq5 q b c g p
     clear b c g p q B az u ag F
     go_wp2_with fail
     go_region
     go_wp2_with fail
     go_roundw
     case rel=>
      rw[W1.o]
      refine⟨j+1,_,by omega,by go_num,G.o,(l.o.far (by simp;omega) _).far (by simp;omega) _,(f.o.far (by simp;omega) _).far (by simp;omega) _,?_,((d.o.setCell (by simp;omega) _).setCell (by simp;omega) _).drew⟩
      rw[←zbp,←zbp]
      exact(n.o.set (j+1) _).set j _
     case measure=>simp[intOf];omega
    have a5:j=14:=by omega
    subst a5
    have J:=b.cell 15
    rw[zav (by omega)]at J
    have L:=p.cell 14
    rw[zav (by omega)]at L
    have O:=p.cell 15
    rw[zav (by omega)]at O
    have f2:=p.free 14
    have f3:=p.free 15
    have I:=s.o.dig 15 (by omega)
    have q:=B.step (by omega) u I (P:=32767) rfl (by omega) (by omega)
    have ht:=B.top
    generalize zs.getD 15 0=a at*
    generalize t.getD 14 0=m at*
    obtain⟨be,bj⟩:=I
    obtain⟨bc,bd⟩:=ht
    have F:bits .and .i64 (m / 65536) 1=-(m / 65536):=and1 (by omega)
    have b0:0≤bits .and .i64 (m / 65536) 1:=by rw[F];omega
    have b1:bits .and .i64 (m / 65536) 1≤1:=by rw[F];omega
    have ae:=q.done u
    have a6:=q.len
    have ak:((t.set 15 (a - 32767 - bits .and .i64 (m / 65536) 1)).set 14 (bits .and .i64 m 65535)).getD 15 0=a - 32767 - bits .and .i64 (m / 65536) 1:=by
     rw[zae (by omega),zaj (by omega)]
    simp only[Nat.reduceAdd]at ae a6
    rw[ak]at ae
    obtain⟨v1,v2,v3⟩:=ae
    obtain⟨l,f,d,n,V1,V2⟩:=jq6 b c g p v1 v2
    obtain⟨V3,a3,b9⟩:=jq3 v3 a6 u
    clear b c g p q B u ag F ak v1 v2 v3 a6
    have bi:Hid (Blk ((wr.setCell ⟨M,15,none⟩ (.int .i64 (a - 32767 - bits .and .i64 (m / 65536) 1))).setCell ⟨M,14,none⟩ (.int .i64 (bits .and .i64 m 65535))) M (ints .i64 ((t.set 15 (a - 32767 - bits .and .i64 (m / 65536) 1)).set 14 (bits .and .i64 m 65535))) 87):=jh (by
     rw[←zbp,←zbp]
     exact(n.o.set 15 _).set 14 _)
    have au:=jh ((l.o.far (a:=⟨M,15,none⟩) (by simp;omega) (.int .i64 (a - 32767 - bits .and .i64 (m / 65536) 1))).far (a:=⟨M,14,none⟩) (by simp;omega) (.int .i64 (bits .and .i64 m 65535)))
    have ah:=jh ((f.o.far (a:=⟨M,15,none⟩) (by simp;omega) (.int .i64 (a - 32767 - bits .and .i64 (m / 65536) 1))).far (a:=⟨M,14,none⟩) (by simp;omega) (.int .i64 (bits .and .i64 m 65535)))
    have a7:Hid (Below w.heap.size w ((wr.setCell ⟨M,15,none⟩ (.int .i64 (a - 32767 - bits .and .i64 (m / 65536) 1))).setCell ⟨M,14,none⟩ (.int .i64 (bits .and .i64 m 65535)))):=jh ((d.o.setCell (by simp;omega) _).setCell (by simp;omega) _)
    have ar:Hid ((Tryd.prog.info? 87).map (·.size)=some (ints .i64 ((t.set 15 (a - 32767 - bits .and .i64 (m / 65536) 1)).set 14 (bits .and .i64 m 65535))).length):=jh (by rw[zaa,a3.o];exact Tryd.arr87)
    have bb:Hid ((ints .i64 ((t.set 15 (a - 32767 - bits .and .i64 (m / 65536) 1)).set 14 (bits .and .i64 m 65535))).length=(ints .i64 zs).length):=jh (by rw[zaa,zaa,a3.o,b9.o])
    by_cases a8:0≤a - 32767 - bits .and .i64 (m / 65536) 1
    ·have bl:bits .and .i64 (m / 65536) 1≤a - 32767:=by omega
     go_wp2_with (first|(refine zar rfl _ _ rfl M rfl _ _ _ _ bi.o Tryd.underlying87 ar.o ?_)|(refine zah rfl _ _ _ rfl A _ rfl rfl _ _ au.o bb.o ar.o (zai _ _) ?_;intro w7 a2 U))
     go_roundw
     case rel=>exact⟨k+1,_,by omega,by go_num,s.o.less av a3.o (V3.o a8) V1.o (V2.o.1 a8),a2,ah.o.grown U (by simp),a7.o.grown U a7.o.size (fun r K=>by cases K;omega)⟩
     case measure=>simp[intOf];omega
    have bo:a - 32767 - bits .and .i64 (m / 65536) 1<0:=by omega
    go_wp2_with fail
    go_roundw
    case rel=>exact⟨k+1,zs,by omega,by go_num,s.o.keep av (fun h=>a8 (V2.o.2 h)),au.o,ah.o,a7.o⟩
    case measure=>simp[intOf];omega
  have bg:k=3:=by omega
  subst bg
  obtain⟨N,W⟩:=nxq wr.heap.size
  have bm:A+1<N:=by have:=c.lt;omega
  have z:=Blk.made wr (ints .u8 (List.replicate 32 0)) 23
  rw[←W]at z
  obtain⟨l,f,d,n,s⟩:=jq5 (b.alloc (.cells (ints .u8 (List.replicate 32 0)).toArray 23)) (c.alloc (.cells (ints .u8 (List.replicate 32 0)).toArray 23)) (g.alloc g.size (.cells (ints .u8 (List.replicate 32 0)).toArray 23)) z C
  clear b c g z C
  go_wp2_with fail
  rw[←W]
  change Code.wp _ _ _ _ (wr.alloc (.cells (ints .u8 (List.replicate 32 0)).toArray 23))
  generalize wr.alloc (.cells (ints .u8 (List.replicate 32 0)).toArray 23)=w6 at*
  clear W
  obtain⟨wo,rfl⟩:=nxq wr
  go_loopw [7] (fun i wr=>∃(j:Nat) (E:List Int),j≤16∧i=.int .i64 j∧OutB zs E j∧Blk wr A (ints .i64 zs) 87∧Blk wr (A+1) (ints .u8 (List.replicate 32 0)) 23∧Blk wr N (ints .u8 E) 23∧Below w.heap.size w wr) (fun i _=>16 - (intOf i).toNat)
  case atStart=>exact⟨0,_,by omega,rfl,⟨rfl,fun j hj=>by omega⟩,l.o,f.o,n.o,d.o⟩
  case round=>
   clear l f d n
   obtain⟨j,E,hj,rfl,H,b,c,y,g⟩:=hrel
   have u:=s.o.len
   have X:=H.len
   have bh:(0:Int)≤(j:Int):=Int.natCast_nonneg _
   by_cases aa:j<16
   ·have J:=b.cell j
    rw[zav (by omega)]at J
    have L:=y.cell (2*j)
    rw[zav (by omega)]at L
    have O:=y.cell (2*j+1)
    rw[zav (by omega)]at O
    have f2:=y.free (2*j)
    have f3:=y.free (2*j+1)
    have j1:(j:Int)<16:=by omega
    have s3:(2*(j:Int)).toNat=2*j:=by omega
    have s4:(2*(j:Int)+1).toNat=2*j+1:=by omega
    have s5:(0:Int)≤2*(j:Int):=by omega
    have s6:(0:Int)≤2*(j:Int)+1:=by omega
    have s7:2*(j:Int)<32:=by omega
    have s8:2*(j:Int)+1<32:=by omega
    have q:=H.step aa
    generalize zs.getD j 0=a at*
    obtain⟨G,l,f,d,n⟩:=jq5 q b c g y
    clear b c g y q H u X
    go_wp2_with fail
    go_roundw
    case rel=>
     refine⟨j+1,_,by omega,by go_num,G.o,(l.o.far (by simp;omega) _).far (by simp;omega) _,(f.o.far (by simp;omega) _).far (by simp;omega) _,?_,(d.o.setCell (by simp;omega) _).setCell (by simp;omega) _⟩
     rw[←zbp,←zbp]
     exact(n.o.set (2*j) _).set (2*j+1) _
    case measure=>simp[intOf];omega
   have a5:j=16:=by omega
   subst a5
   have b8:=H.done s.o
   have a1:Hid ((Tryd.prog.info? 23).map (·.size)=some (ints .u8 E).length):=jh (by rw[zaa,X];exact Tryd.arr23)
   have bf:Hid ((ints .u8 E).length=(ints .u8 (List.replicate 32 0)).length):=jh (by rw[zaa,zaa,X];rfl)
   obtain⟨f,d,n,HF⟩:=jq4 c g y b8
   clear b c g y H u X b8
   go_wp2_with (first|(refine zar rfl _ _ rfl N rfl _ _ _ _ n.o Tryd.underlying23 a1.o ?_)|(refine zah rfl _ _ _ rfl (A+1) _ rfl rfl _ _ f.o bf.o a1.o (zai _ _) ?_;intro w7 a2 U))
   exact bodyPost_ret (v:=.agg (ints .u8 E).toArray) (zat (by rfl) _ (A+1) _ _ _ _ (by rfl) a2 Tryd.underlying23 a1.o) rfl ⟨by rw[HF.o],d.o.grown U d.o.size (fun r K=>by cases K;omega)⟩
theorem half_step {E k:Nat}(a:k<256):E / 2^(255 - k)=2*(E / 2^(256 - k))+E / 2^(255 - k)%2:=by
 have e:E / 2^(256 - k)=E / 2^(255 - k) / 2:=by
  rw[q137,←q119]
  congr 2
  omega
 rw[e]
 omega
theorem el_len {zs:List Int} {x:Int}(h:IsEl (.agg (ints .i64 zs).toArray) x):zs.length=16:=by
 obtain⟨a,e,h,_⟩:=h
 have:=congrArg (fun v:Value=>match v with|.agg c=>c.size|_=>0) e
 simp[ints]at this
 omega
theorem rpow_any(u:Value)(x:Int)(l:List UInt8)(w:World)(hu:IsEl u x)(hl:l.length=32):
  Calls Tryd.prog 73 #[u,.agg (l.map bval).toArray] w fun e w'=>∃r,e=.returned r∧IsEl r (x^leN l)∧Below w.heap.size w w':=by
 have HU:=jh hu
 obtain⟨G,rfl,la,ba,qa,va⟩:=hu
 obtain⟨HL,LA,aa⟩:=jq3 hl la (boxes3 w (ints .i64 G) (l.map bval) (ints .i64 (List.replicate 16 0)) 87 23 87)
 have ag:=jh (rone_el 1 (((w.alloc (.cells (ints .i64 G).toArray 87)).alloc (.cells (l.map bval).toArray 23)).alloc (.cells (ints .i64 (List.replicate 16 0)).toArray 87)) (by omega) (by omega))
 clear la ba va hl
 go_enter Tryd.func73,Tryd.ntmps73
 go_wp2_with fail
 change Calls _ _ _ (((w.alloc (.cells (ints .i64 G).toArray 87)).alloc (.cells (l.map bval).toArray 23)).alloc (.cells (ints .i64 (List.replicate 16 0)).toArray 87)) _
 generalize ((w.alloc (.cells (ints .i64 G).toArray 87)).alloc (.cells (l.map bval).toArray 23)).alloc (.cells (ints .i64 (List.replicate 16 0)).toArray 87)=w0 at*
 obtain⟨h1,h2,h3,h4⟩:=aa.o
 obtain⟨A,hA⟩:=nxq w.heap.size
 rw[←hA]at h1 h2 h3⊢
 have b5:w.heap.size≤A:=by omega
 obtain⟨t,j,f,H4⟩:=jq4 h1 h2 h3 h4
 clear h1 h2 h3 h4 aa hA
 refine ag.o.mono ?_
 rintro e w1 ⟨r1,rfl,a7,a⟩
 obtain⟨z1,rfl,a8,an,b7,b2⟩:=id a7
 obtain⟨X,hX⟩:=nxq w1.heap.size
 have aj:=t.o.same (a.block _ t.o.lt)
 have ah:=j.o.same (a.block _ j.o.lt)
 have Y:=f.o.same (a.block _ f.o.lt)
 have bb:A+1+1<X:=by have:=Y.lt;omega
 have ac:=Blk.made w1 (ints .i64 (List.replicate 16 0)) 87
 have m:=H4.o.trans (a.mono H4.o.size)
 obtain⟨H,q,J,K4,K5⟩:=jq5 (aj.alloc (.cells (ints .i64 (List.replicate 16 0)).toArray 87)) (ah.alloc (.cells (ints .i64 (List.replicate 16 0)).toArray 87)) (Y.alloc (.cells (ints .i64 (List.replicate 16 0)).toArray 87)) (m.alloc m.size (.cells (ints .i64 (List.replicate 16 0)).toArray 87)) ac
 have ab:Hid ((Tryd.prog.info? 87).map (·.size)=some (ints .i64 z1).length):=jh (by rw[zaa,a8];exact Tryd.arr87)
 have af:Hid ((ints .i64 z1).length=(ints .i64 (List.replicate 16 0)).length):=jh (by rw[zaa,zaa,a8];rfl)
 have al:=jh a7
 clear a aj ah Y ac m a8 an b2 a7
 go_wp2_with (refine zah rfl _ _ _ rfl w1.heap.size (ints .i64 z1) rfl rfl _ _ K5.o af.o ab.o (zai _ _) ?_;intro w5 Z F)
 rw[←hX]at Z F⊢
 have J1:=jh (H.o.grown F (by simp;omega))
 have J2:=jh (q.o.grown F (by simp;omega))
 have J3:=jh (J.o.grown F (by simp;omega))
 have J4:=jh (K4.o.grown F K4.o.size (fun r d=>by cases d;omega))
 have J5:=jh Z
 have hE:leN l<2^256:=by
  have:=leN_lt l
  rw[HL.o]at this
  have e:(256:Nat)^32=2^256:=by decide+kernel
  rw[e]at this
  exact this
 have HE:=jh hE
 clear Z F hX H q J K4 K5 t j f H4 af ab ag hE
 go_loopw [6] (fun i wr=>∃(k:Nat) (zs:List Int),k≤256∧i=.int .i64 (255 - (k:Int))∧IsEl (.agg (ints .i64 zs).toArray) (x^(leN l / 2^(256 - k)))∧Blk wr A (ints .i64 G) 87∧Blk wr (A+1) (l.map bval) 23∧Blk wr (A+1+1) (ints .i64 (List.replicate 16 0)) 87∧Blk wr X (ints .i64 zs) 87∧Below w.heap.size w wr) (fun i _=>(intOf i+1).toNat)
 case atStart=>exact⟨0,z1,by omega,rfl,by rw[Nat.sub_zero,q133 HE.o,Int.pow_zero];exact al.o,J1.o,J2.o,J3.o,J5.o,J4.o⟩
 case round=>
  clear J1 J2 J3 J4 J5 al
  obtain⟨k,zs,hk,rfl,g,a,N,V,U,m⟩:=hrel
  have b8:(0:Int)≤(k:Int):=Int.natCast_nonneg _
  by_cases aw:k<256
  ·have i1:(0:Int)≤255 - (k:Int):=by omega
   have i2:(k:Int)≤255:=by omega
   have ae:=rmul_any _ _ _ _ wr g g
   have y:zs.length=16:=by
    obtain⟨b6,e,h,_⟩:=g
    have:=congrArg (fun v:Value=>match v with|.agg c=>c.size|_=>0) e
    simp[ints]at this
    omega
   have e1:=N.cell ((255 - k) / 8)
   rw[zbf (by have:=HL.o;omega)]at e1
   obtain⟨t,j,f,C,D,ai⟩:=jq6 a N V U m g
   have b3:=jh ae
   have I:Hid ((Tryd.prog.info? 87).map (·.size)=some (ints .i64 zs).length):=jh (by rw[zaa,y];exact Tryd.arr87)
   clear a N V U m g ae
   go_wp2_with (refine zar rfl _ _ rfl X rfl _ _ _ _ C.o Tryd.underlying87 I.o ?_)
   refine b3.o.mono ?_
   rintro e w6 ⟨r6,rfl,a6,s⟩
   obtain⟨z,rfl,a4,aq,b4,am⟩:=id a6
   have S:=s.cell (p:=⟨A+1,(255 - k) / 8,none⟩) (j.o.lt)
   rw[e1]at S
   have H:=jh (t.o.same (s.block _ t.o.lt))
   have q:=jh (j.o.same (s.block _ j.o.lt))
   have J:=jh (f.o.same (s.block _ f.o.lt))
   have KX:=jh (C.o.same (s.block _ C.o.lt))
   have Q:=jh (D.o.trans (s.mono D.o.size))
   have a2:Hid ((Tryd.prog.info? 87).map (·.size)=some (ints .i64 z).length):=jh (by rw[zaa,a4];exact Tryd.arr87)
   have ad:Hid ((ints .i64 z).length=(ints .i64 zs).length):=jh (by rw[zaa,zaa,a4,y])
   have a5:=jh a6
   clear s a4 aq am a6 e1 t j f C D y
   generalize ak:(l.getD ((255 - k) / 8) 0).toNat=M at*
   have b0:=jh ak
   clear ak
   have s1:((255 - (k:Int)) / 8).toNat=(255 - k) / 8:=by omega
   have s2:(0:Int)≤(255 - (k:Int)) / 8:=by omega
   have s3:(255 - (k:Int)) / 8<32:=by omega
   have s4:(0:Int)≤(255 - (k:Int))%8:=by omega
   have s5:(255 - (k:Int))%8<8:=by omega
   have P:=half_step (E:=leN l) aw
   have K:=leN_bit l (255 - k) (by have:=HL.o;omega)
   rw[b0.o]at K
   have L:(M:Int) / 2^((255 - k)%8)=((M / 2^((255 - k)%8):Nat):Int):=by
    rw[Int.natCast_ediv,Int.natCast_pow]
    rfl
   have T:256 - (k+1)=255 - k:=by omega
   by_cases a:leN l / 2^(255 - k)%2=1
   ·have hq:(bits .and .u8 ((M:Int) / 2^((255 - k)%8)) 1==1)=true:=by
     rw[L,andU1,←K,a]
     rfl
    have a3:Hid (x^(leN l / 2^(256 - (k+1)))=x^(leN l / 2^(256 - k))*x^(leN l / 2^(256 - k))*x):=jh (by
     rw[T,P,a,q114,Nat.two_mul,Int.pow_add])
    have ao:Hid ((Tryd.prog.info? 87).map (·.size)=some (ints .i64 G).length):=jh (by rw[zaa,LA.o];exact Tryd.arr87)
    clear P K L T a
    go_wp2_with (first|(refine zah rfl _ _ _ rfl X (ints .i64 z) rfl rfl _ _ KX.o ad.o a2.o (zai _ _) ?_;intro w7 n b;have e7:=(b.cell_far ⟨A+1,(255 - k) / 8,none⟩ (q.o.lt) (by simp;omega)).trans S;have W:=H.o.grown b (by simp;omega))|(refine zar rfl _ _ rfl X rfl _ _ _ _ n Tryd.underlying87 a2.o ?_)|(refine zar rfl _ _ rfl A rfl _ _ _ _ W Tryd.underlying87 ao.o ?_))
    have L2:=jh (q.o.grown b (by simp;omega))
    have L3:=jh (J.o.grown b (by simp;omega))
    have LB:=jh (Q.o.grown b Q.o.size (fun r d=>by cases d;omega))
    obtain⟨LX,L1⟩:=jq2 n W
    have HM:=jh (rmul_any _ _ _ _ w7 a5.o HU.o)
    clear n b e7 W S
    refine HM.o.mono ?_
    rintro e w8 ⟨r8,rfl,a9,B⟩
    obtain⟨O,rfl,a1,ax,b9,ar⟩:=id a9
    have M1:=jh (L1.o.same (B.block _ L1.o.lt))
    have M2:=jh (L2.o.same (B.block _ L2.o.lt))
    have M3:=jh (L3.o.same (B.block _ L3.o.lt))
    have MX:=jh (LX.o.same (B.block _ LX.o.lt))
    have MB:=jh (LB.o.trans (B.mono LB.o.size))
    have ap:Hid ((Tryd.prog.info? 87).map (·.size)=some (ints .i64 O).length):=jh (by rw[zaa,a1];exact Tryd.arr87)
    have au:Hid ((ints .i64 O).length=(ints .i64 z).length):=jh (by rw[zaa,zaa,a1,el_len a5.o])
    have az:=jh a9
    clear B a1 ax ar a9
    go_wp2_with (refine zah rfl _ _ _ rfl X (ints .i64 O) rfl rfl _ _ MX.o au.o ap.o (zai _ _) ?_;intro w9 b1 R)
    go_roundw
    case rel=>exact⟨k+1,O,by omega,by go_num,by rw[a3.o];exact az.o,M1.o.grown R (by simp;omega),M2.o.grown R (by simp;omega),M3.o.grown R (by simp;omega),b1,MB.o.grown R MB.o.size (fun r d=>by cases d;omega)⟩
    case measure=>simp[intOf];omega
   have a0:leN l / 2^(255 - k)%2=0:=by omega
   have hq:(bits .and .u8 ((M:Int) / 2^((255 - k)%8)) 1==1)=false:=by
    rw[L,andU1,←K,a0]
    rfl
   have a3:Hid (x^(leN l / 2^(256 - (k+1)))=x^(leN l / 2^(256 - k))*x^(leN l / 2^(256 - k))):=jh (by
    rw[T,P,a0,Nat.add_zero,Nat.two_mul,Int.pow_add])
   clear P K L T a a0
   go_wp2_with (refine zah rfl _ _ _ rfl X (ints .i64 z) rfl rfl _ _ KX.o ad.o a2.o (zai _ _) ?_;intro w7 n b;have e7:=(b.cell_far ⟨A+1,(255 - k) / 8,none⟩ (q.o.lt) (by simp;omega)).trans S)
   go_roundw
   case rel=>exact⟨k+1,z,by omega,by go_num,by rw[a3.o];exact a5.o,H.o.grown b (by simp;omega),q.o.grown b (by simp;omega),J.o.grown b (by simp;omega),n,Q.o.grown b Q.o.size (fun r d=>by cases d;omega)⟩
   case measure=>simp[intOf];omega
  have av:k=256:=by omega
  subst av
  have y:=el_len g
  obtain⟨C,f,D⟩:=jq3 U V m
  have ai:Hid (IsEl (.agg (ints .i64 zs).toArray) (x^leN l)):=jh (by simpa using g)
  have I:Hid ((Tryd.prog.info? 87).map (·.size)=some (ints .i64 zs).length):=jh (by rw[zaa,y];exact Tryd.arr87)
  have ay:Hid ((ints .i64 zs).length=(ints .i64 (List.replicate 16 0)).length):=jh (by rw[zaa,zaa,y];rfl)
  clear a N V U m g y
  go_wp2_with (first|(refine zar rfl _ _ rfl X rfl _ _ _ _ C.o Tryd.underlying87 I.o ?_)|(refine zah rfl _ _ _ rfl (A+1+1) _ rfl rfl _ _ f.o ay.o I.o (zai _ _) ?_;intro w7 n b))
  exact bodyPost_ret (v:=.agg (ints .i64 zs).toArray) (zat (by rfl) _ (A+1+1) _ _ _ _ (by rfl) n Tryd.underlying87 I.o) rfl ⟨_,rfl,ai.o,D.o.grown b D.o.size (fun r d=>by cases d;omega)⟩
def nb(x:Int):List UInt8:=bytesN 32 (x%pP).toNat
theorem nb_length(x:Int):(nb x).length=32:=zap _ _
def numP(x:Int):Value:=.agg ((bytesN 32 (x%pP).toNat).map bval).toArray
structure FullB(bs:List Int)(k:Nat):Prop where
 len:bs.length=32
 low:∀j,j<k→bs.getD j 0=255
theorem FullB.step {a:List Int} {k:Nat}(h:FullB a k)(c:k<32):FullB (a.set k 255) (k+1):=by
 obtain⟨h1,h2⟩:=h
 refine⟨by simp[h1],fun j b=>?_⟩
 by_cases e:j=k
 ·subst e
  rw[zaj (by omega)]
 rw[zae (by omega)]
 exact h2 j (by omega)
theorem FullB.done {a:List Int}(h:FullB a 32):a=List.replicate 32 255:=by
 apply List.ext_getElem?
 intro i
 by_cases b:i<32
 ·have:=h.low i b
  have c:=h.len
  rw[List.getElem?_eq_getElem (by omega),List.getElem?_replicate,if_pos b]
  simpa[List.getD,show i<a.length from by omega]using this
 rw[List.getElem?_eq_none (by have:=h.len;omega),List.getElem?_eq_none (by simp;omega)]
theorem rin_el(l:List UInt8)(w:World)(f:l.length=32):
  Calls Tryd.prog 65 #[.agg (l.map bval).toArray] w fun e a=>∃r,e=.returned r∧IsEl r (leN l)∧Below w.heap.size w a:=by
 refine(rin_any l w f).mono ?_
 rintro e a ⟨zs,rfl,h1,h2,b,d⟩
 exact⟨_,rfl,⟨zs,rfl,h1,fun z c=>by have:=h2 z c;omega,0,by rw[b];omega⟩,d⟩
theorem fld_leN_p2:leN (bytesN 32 (pP - 2).toNat)=(pP - 2).toNat:=by decide+kernel
theorem rmost_any(w:World):Calls Tryd.prog 74 #[.int .i64 21] w fun e N=>e=.returned (.agg ((bytesN 32 (pP - 2).toNat).map bval).toArray)∧Below w.heap.size w N:=by
 have s:=jh (boxes2 w (ints .u8 (List.replicate 32 0)) (ints .u8 (List.replicate 32 0)) 23 23)
 go_enter Tryd.func74,Tryd.ntmps74
 go_wp2_with fail
 change Code.wp _ _ _ _ ((w.alloc (.cells (ints .u8 (List.replicate 32 0)).toArray 23)).alloc (.cells (ints .u8 (List.replicate 32 0)).toArray 23))
 generalize (w.alloc (.cells (ints .u8 (List.replicate 32 0)).toArray 23)).alloc (.cells (ints .u8 (List.replicate 32 0)).toArray 23)=S at*
 obtain⟨h1,h2,y⟩:=s.o
 obtain⟨A,u⟩:=nxq w.heap.size
 rw[←u]at h1 h2⊢
 have U:w.heap.size≤A:=by omega
 obtain⟨l,h,c⟩:=jq3 h1 h2 y
 clear h1 h2 y s u
 go_loopw [4] (fun i wr=>∃(k:Nat) (n:List Int),k≤32∧i=.int .i64 k∧FullB n k∧Blk wr A (ints .u8 (List.replicate 32 0)) 23∧Blk wr (A+1) (ints .u8 n) 23∧Below w.heap.size w wr) (fun i _=>32 - (intOf i).toNat)
 case atStart=>exact⟨0,_,by omega,rfl,⟨rfl,fun j Q=>by omega⟩,l.o,h.o,c.o⟩
 case round=>
  clear l h c
  obtain⟨k,n,T,rfl,d,g,b,f⟩:=hrel
  have R:(0:Int)≤(k:Int):=Int.natCast_nonneg _
  have B:=d.len
  by_cases H:k<32
  ·have V:(k:Int)<32:=by omega
   have D:=b.cell k
   rw[zav (by omega)]at D
   have J:=b.free k
   have C:=d.step H
   obtain⟨L,l,h,c⟩:=jq4 C g b f
   clear g b f d C B
   go_wp2_with fail
   go_roundw
   case rel=>
    refine⟨k+1,_,by omega,by go_num,L.o,l.o.far (by simp) _,?_,c.o.setCell (by simp;omega) _⟩
    rw[←zbp]
    exact h.o.set k _
   case measure=>simp[intOf];omega
  have O:k=32:=by omega
  subst O
  have K:=d.done
  subst K
  have D:wr.cell? ⟨A+1,31,none⟩=some (.int .u8 255):=by rw[b.cell 31];rfl
  have X:wr.cell? ⟨A+1,0,none⟩=some (.int .u8 255):=by rw[b.cell 0];rfl
  have J:=b.free 31
  have P:=b.free 0
  have m:=(b.set 31 (.int .u8 127)).set 0 (.int .u8 235)
  have x:=(g.far (a:=⟨A+1,31,none⟩) (by simp) (.int .u8 127)).far (a:=⟨A+1,0,none⟩) (by simp) (.int .u8 235)
  rw[zbp,zbp]at m
  have q:ints .u8 (((List.replicate 32 255).set 31 127).set 0 235)=(bytesN 32 (pP - 2).toNat).map bval:=by kernel_rfl
  rw[q]at m
  have t:Below w.heap.size w ((wr.setCell ⟨A+1,31,none⟩ (.int .u8 127)).setCell ⟨A+1,0,none⟩ (.int .u8 235)):=(f.setCell (by simp;omega) _).setCell (by simp;omega) _
  obtain⟨c,F,z⟩:=jq3 m x t
  have p:Hid ((Tryd.prog.info? 23).map (·.size)=some ((bytesN 32 (pP - 2).toNat).map bval).length):=jh (by rw[q100,zap];exact Tryd.arr23)
  have E:Hid (((bytesN 32 (pP - 2).toNat).map bval).length=(ints .u8 (List.replicate 32 0)).length):=jh (by rw[q100,zap];rfl)
  clear g b m x t f d B q
  go_wp2_with (first|(refine zar rfl _ _ rfl (A+1) rfl _ _ _ _ c.o Tryd.underlying23 p.o ?_)|(refine zah rfl _ _ _ rfl A _ rfl rfl _ _ F.o E.o p.o (zac _) ?_;intro Y G I))
  exact bodyPost_ret (v:=.agg ((bytesN 32 (pP - 2).toNat).map bval).toArray) (zat (by rfl) _ A _ _ _ _ (by rfl) G Tryd.underlying23 p.o) rfl ⟨rfl,z.o.grown I z.o.size (fun r M=>by cases M;omega)⟩
theorem rinv_any(u:Value)(x:Int)(w:World)(a:IsEl u x):
  Calls Tryd.prog 55 #[u] w fun e t=>∃r,e=.returned r∧IsEl r (x^(pP - 2).toNat)∧Below w.heap.size w t:=by
 have O:=jh a
 obtain⟨d,rfl,C,U,qa,T⟩:=a
 have a:=Tryd.underlying87
 have f:(Tryd.prog.info? 87).map (·.size)=some (ints .i64 d).length:=by rw[zaa,C];exact Tryd.arr87
 obtain⟨D,Q,y⟩:=jq3 a f (boxes2 w (ints .i64 d) (ints .i64 (List.replicate 16 0)) 87 87)
 clear C U T a f
 go_enter Tryd.func55,Tryd.ntmps55
 go_wp2_with fail
 change Code.wp _ _ _ _ ((w.alloc (.cells (ints .i64 d).toArray 87)).alloc (.cells (ints .i64 (List.replicate 16 0)).toArray 87))
 generalize (w.alloc (.cells (ints .i64 d).toArray 87)).alloc (.cells (ints .i64 (List.replicate 16 0)).toArray 87)=q at*
 obtain⟨h1,h2,E⟩:=y.o
 obtain⟨A,B⟩:=nxq w.heap.size
 rw[←B]at h1 h2⊢
 have a0:w.heap.size≤A:=by omega
 obtain⟨i,F,l⟩:=jq3 h1 h2 E
 clear h1 h2 E y B
 have f:=Q.o
 have a:=D.o
 have n:Below q.heap.size q q.drew:=(Below.refl _ _).drew
 refine wp_region_held_drew (S:=fun t=>t.rangeAt A 0 (ints .i64 d)) (by kernel_rfl) (zau i.o n) (fun c=>?_)
 refine tke 0 (.agg (ints .i64 d).toArray) rfl (yieldsIf_load_mid (by rfl) _ _ rfl A 0 rfl _ _ (fun w h=>h) a rfl f) c ?_
 try simp only[nm]
 refine rdy 1 rfl fun K b=>?_
 go_simp
 refine(rmost_any _).mono ?_
 rintro e X ⟨rfl,N⟩
 have s:=n.trans (N.mono n.size)
 refine b.o _ _ (zau i.o s) (fun c=>?_)
 clear b K c
 try simp only[nm]
 refine rdy 2 rfl fun K b=>?_
 go_simp
 refine(rpow_any _ _ _ _ O.o (zap 32 (pP - 2).toNat)).mono ?_
 rintro e Y ⟨W,rfl,j,L⟩
 rw[fld_leN_p2]at j
 obtain⟨z2,rfl,k,H,V,M⟩:=id j
 have g:=s.trans (L.mono s.size)
 refine b.o _ _ (zau i.o g) (fun c=>?_)
 clear b K c
 try simp only[nm]
 refine rdy 3 rfl fun K b=>?_
 have m:(Tryd.prog.info? 87).map (·.size)=some (ints .i64 z2).length:=by rw[zaa,k];exact Tryd.arr87
 rw[if_pos (by rfl)]
 refine zaq _ _ _ rfl (A+1) (ints .i64 z2) rfl rfl _ _ (bl_blk F.o g) (by rw[zaa,zaa,k];rfl) m (zai _ _) ?_
 intro Z z p
 refine b.o _ _ ((bl_blk i.o g).grown p (by simp)).range (fun c=>?_)
 clear b K c
 refine dne ?_
 have P:=jh ((l.o.trans (g.mono l.o.size)).grown p (q118 l.o.size g.size) (fun r R=>by cases R;omega))
 obtain⟨I,J,G⟩:=jq3 m z j
 clear f a m z p j M H k
 go_wp2_with fail
 exact bodyPost_ret (v:=.agg (ints .i64 z2).toArray) (zat (by rfl) _ (A+1) _ _ _ _ (by rfl) J.o D.o I.o) rfl ⟨_,rfl,G.o,P.o⟩
theorem radd_any(u v:Value)(x y:Int)(w:World)(hu:IsEl u x)(hv:IsEl v y):
  Calls Tryd.prog 66 #[u,v] w fun e w'=>∃r,e=.returned r∧IsEl r (x+y)∧Below w.heap.size w w':=by
 obtain⟨g,rfl,R,ba,qa,va⟩:=hu
 obtain⟨f,rfl,Z,U,qb,W⟩:=hv
 obtain⟨HA,S,H,p,VA,VB⟩:=jq6 ba U R Z va W
 have I:=jh (boxes3 w (ints .i64 g) (ints .i64 f) (ints .i64 (List.replicate 16 0)) 87 87 87)
 clear ba U R Z va W
 go_enter Tryd.func66,Tryd.ntmps66
 go_wp2_with fail
 change Code.wp _ _ _ _ (((w.alloc (.cells (ints .i64 g).toArray 87)).alloc (.cells (ints .i64 f).toArray 87)).alloc (.cells (ints .i64 (List.replicate 16 0)).toArray 87))
 generalize ((w.alloc (.cells (ints .i64 g).toArray 87)).alloc (.cells (ints .i64 f).toArray 87)).alloc (.cells (ints .i64 (List.replicate 16 0)).toArray 87)=w0 at*
 obtain⟨h1,h2,D,J⟩:=I.o
 obtain⟨A,O⟩:=nxq w.heap.size
 rw[←O]at h1 h2 D⊢
 have ac:w.heap.size≤A:=by omega
 obtain⟨M,T,X,Y⟩:=jq4 h1 h2 D J
 clear h1 h2 D J I O
 go_loopw [5] (fun i wr=>∃(k:Nat) (zs:List Int),k≤16∧i=.int .i64 k∧AddS g f zs k∧Blk wr A (ints .i64 zs) 87∧Blk wr (A+1) (ints .i64 f) 87∧Blk wr (A+1+1) (ints .i64 (List.replicate 16 0)) 87∧Below w.heap.size w wr) (fun i _=>16 - (intOf i).toNat)
 case atStart=>exact⟨0,g,by omega,rfl,⟨H.o,by simp[dV],fun i _ _=>rfl,fun i F=>by omega⟩,M.o,T.o,X.o,Y.o⟩
 case round=>
  clear M T X Y
  obtain⟨k,zs,hk,rfl,c,d,j,B,s⟩:=hrel
  have ae:(0:Int)≤(k:Int):=Int.natCast_nonneg _
  have h:=c.len
  by_cases Q:k<16
  ·have e1:=d.cell k
   rw[zav (by omega),c.high k (q101 _) Q]at e1
   have e2:=j.cell k
   rw[zav (by have:=p.o;omega)]at e2
   have fk:=d.free k
   have i1:(k:Int)<16:=by omega
   have V:=c.step Q HA.o S.o H.o p.o
   have b1:=zcb (P:=fun z=> -131072≤z∧z≤131072) HA.o (i:=k) (by have:=H.o;omega)
   have b2:=zcb (P:=fun z=> -131072≤z∧z≤131072) S.o (i:=k) (by have:=p.o;omega)
   generalize g.getD k 0=a at*
   generalize f.getD k 0=b at*
   obtain⟨af,aa⟩:=b1
   obtain⟨ab,ad⟩:=b2
   have W1:Hid (wrap64 (a+b)=a+b):=jh (by rw[←IntWalk.i64_left];exact IntWalk.i64_in _ (by omega))
   obtain⟨a8,G,a4,t,n⟩:=jq5 V d j B s
   clear c V d j B s h
   go_wp2_with fail
   go_region
   go_wp2_with fail
   go_roundw
   case rel=>
    try rw[W1.o]
    refine⟨k+1,_,by omega,by go_num,a8.o,?_,a4.o.far (by simp) _,t.o.far (by simp;omega) _,(n.o.setCell (by simp;omega) _).drew⟩
    rw[←zbp]
    exact G.o.set k _
   case measure=>simp[intOf];omega
  have a3:k=16:=by omega
  subst a3
  have E:=c.val
  rw[q105 (by have:=p.o;omega)]at E
  have L:∀z∈zs,-262144≤z∧z≤262144:=zds (P:=fun z=> -262144≤z∧z≤262144) h (fun i F=>c.low i F F)
  obtain⟨G,t,n,a7⟩:=jq4 d B s E
  have a1:Hid ((Tryd.prog.info? 87).map (·.size)=some (ints .i64 zs).length):=jh (by rw[zaa,h];exact Tryd.arr87)
  have HC:=jh (carry_any zs 262144 wr h L (by omega) (by omega))
  clear d j B s c h E L
  go_wp2_with (refine zar rfl _ _ rfl A rfl _ _ _ _ G.o Tryd.underlying87 a1.o ?_)
  refine HC.o.mono ?_
  rintro e w5 ⟨m,rfl,l,C⟩
  have a9:Hid (Blk w5 (A+1+1) (ints .i64 (List.replicate 16 0)) 87):=jh (t.o.same (C.block _ t.o.lt))
  have N:=jh (n.o.trans (C.mono n.o.size))
  have K:Hid ((Tryd.prog.info? 87).map (·.size)=some (ints .i64 m).length):=jh (by rw[zaa,l.len];exact Tryd.arr87)
  have a6:Hid ((ints .i64 m).length=(ints .i64 (List.replicate 16 0)).length):=jh (by rw[zaa,zaa,l.len];rfl)
  have a0:=jh l
  clear C l
  go_wp2_with (refine zah rfl _ _ _ rfl (A+1+1) _ rfl rfl _ _ a9.o a6.o K.o (zai _ _) ?_;intro w6 a2 a5)
  obtain⟨q1,q,q2⟩:=a0.o.el (by omega)
  refine bodyPost_ret (v:=.agg (ints .i64 m).toArray) (zat (by rfl) _ (A+1+1) _ _ _ _ (by rfl) a2 Tryd.underlying87 K.o) rfl ⟨_,rfl,⟨m,rfl,a0.o.len,q1,qa+qb+q,?_⟩,N.o.grown a5 N.o.size (fun r hr=>by cases hr;omega)⟩
  rw[q2,a7.o,VA.o,VB.o]
  grind
section
def IsPrime(p:Nat):Prop:=2≤p∧∀d,d∣p→d=1∨d=p
theorem IsPrime.coprime {p a:Nat}(h:IsPrime p)(b:¬p∣a):Nat.Coprime p a:=by
 rcases h.2 _ (Nat.gcd_dvd_left p a)with h1|h1
 ·exact h1
 exact absurd (h1▸Nat.gcd_dvd_right p a) b
theorem IsPrime.dvd_mul {p a b:Nat}(h:IsPrime p)(d:p∣a*b):p∣a∨p∣b:=by
 by_cases c:p∣a
 ·exact Or.inl c
 exact Or.inr ((h.coprime c).dvd_of_dvd_mul_left d)
theorem exists_prime_dvd:∀(n:Nat),2≤n→∃r,IsPrime r∧r∣n
 |n,hn=>by
  by_cases h:∀d,d∣n→d=1∨d=n
  ·exact⟨n,⟨hn,h⟩,Nat.dvd_refl n⟩
  obtain⟨d,c⟩:=Classical.not_forall.1 h
  rw[Classical.not_imp]at c
  obtain⟨a,b⟩:=c
  have h1:d≠1:=fun e=>b (Or.inl e)
  have h2:d≠n:=fun e=>b (Or.inr e)
  have i:d≤n:=Nat.le_of_dvd (by omega) a
  have h0:d≠0:=fun e=>by
   subst e
   have:=Nat.eq_zero_of_zero_dvd a
   omega
  obtain⟨r,f,g⟩:=exists_prime_dvd d (by omega)
  exact⟨r,f,Nat.dvd_trans g a⟩
  termination_by n=>n
theorem prime_of_roots {n:Nat}(p:2≤n)(h:∀r,IsPrime r→r∣n→n<r*r):IsPrime n:=by
 refine⟨p,fun d k=>?_⟩
 by_cases h1:d=1
 ·exact Or.inl h1
 by_cases h2:d=n
 ·exact Or.inr h2
 exfalso
 obtain⟨e,i⟩:=k
 have t:d≠0:=fun e=>by subst e;omega
 have x:e≠0:=fun a=>by subst a;omega
 have u:e≠1:=fun a=>by subst a;omega
 obtain⟨r,q,g⟩:=exists_prime_dvd d (by omega)
 obtain⟨s,m,b⟩:=exists_prime_dvd e (by omega)
 have A:=h r q (i▸Nat.dvd_trans g (Nat.dvd_mul_right d e))
 have v:=h s m (i▸Nat.dvd_trans b (Nat.dvd_mul_left e d))
 have f:=Nat.le_of_dvd (by omega) g
 have c:=Nat.le_of_dvd (by omega) b
 have c1:=Nat.mul_le_mul f f
 have c2:=Nat.mul_le_mul c c
 have l:d*e<d*d:=by omega
 have j:d*e<e*e:=by omega
 have y:=Nat.lt_of_mul_lt_mul_left l
 have z:d<e:=by
  rw[q120 d e]at j
  exact Nat.lt_of_mul_lt_mul_left j
 omega
def ch:Nat→Nat→Nat
 |_,0=>1
 |0,_+1=>0
 |n+1,k+1=>ch n k+ch n (k+1)
theorem ch_mul:∀(n k:Nat),(k+1)*ch (n+1) (k+1)=(n+1)*ch n k
 |0,0=>by simp[ch]
 |0,k+1=>by simp[ch]
 |n+1,0=>by
  have:=ch_mul n 0
  simp only[ch]at this⊢
  omega
 |n+1,k+1=>by
  have h1:=ch_mul n k
  have h2:=ch_mul n (k+1)
  have e:ch (n+1+1) (k+1+1)=ch (n+1) (k+1)+ch (n+1) (k+1+1):=rfl
  have a:ch (n+1) (k+1)=ch n k+ch n (k+1):=rfl
  rw[e,Nat.mul_add,h2]
  have b:(k+1+1)*ch (n+1) (k+1)=(k+1)*ch (n+1) (k+1)+ch (n+1) (k+1):=by rw[Nat.add_mul (k+1) 1,Nat.one_mul]
  rw[b,h1,a,Nat.mul_add (n+1+1),Nat.add_mul (n+1) 1 (ch n k),Nat.add_mul (n+1) 1 (ch n (k+1))]
  omega
theorem ch_over:∀(n k:Nat),n<k→ch n k=0
 |_,0,h=>by omega
 |0,k+1,_=>rfl
 |n+1,k+1,h=>by
  show ch n k+ch n (k+1)=0
  rw[ch_over n k (by omega),ch_over n (k+1) (by omega)]
theorem ch_self:∀(n:Nat),ch n n=1
 |0=>rfl
 |n+1=>by
  show ch n n+ch n (n+1)=1
  rw[ch_self n,ch_over n (n+1) (by omega)]
def sumTo(f:Nat→Nat):Nat→Nat
 |0=>0
 |m+1=>sumTo f m+f m
theorem sumTo_shift(f:Nat→Nat):∀m,sumTo f (m+1)=f 0+sumTo (fun k=>f (k+1)) m
 |0=>by simp[sumTo]
 |m+1=>by
  have:=sumTo_shift f m
  simp only[sumTo]at this⊢
  omega
theorem sumTo_add(f g:Nat→Nat):∀m,sumTo (fun k=>f k+g k) m=sumTo f m+sumTo g m
 |0=>rfl
 |m+1=>by
  have:=sumTo_add f g m
  simp only[sumTo]at this⊢
  omega
theorem sumTo_mul(c:Nat)(f:Nat→Nat):∀m,sumTo (fun k=>c*f k) m=c*sumTo f m
 |0=>by simp[sumTo]
 |m+1=>by
  have:=sumTo_mul c f m
  simp only[sumTo,this,Nat.mul_add]
theorem sumTo_congr {f g:Nat→Nat}:∀m,(∀k,k<m→f k=g k)→sumTo f m=sumTo g m
 |0,_=>rfl
 |m+1,h=>by
  simp only[sumTo]
  rw[sumTo_congr m (fun k a=>h k (by omega)),h m (by omega)]
theorem binom(a:Nat):∀n,(a+1)^n=sumTo (fun k=>ch n k*a^k) (n+1)
 |0=>by simp[sumTo,ch]
 |n+1=>by
  have d:=binom a n
  have e:sumTo (fun k=>ch (n+1) k*a^k) (n+1+1)=1+sumTo (fun k=>ch (n+1) (k+1)*a^(k+1)) (n+1):=by
   rw[sumTo_shift]
   simp[ch]
  have f:sumTo (fun k=>ch (n+1) (k+1)*a^(k+1)) (n+1)=a*sumTo (fun k=>ch n k*a^k) (n+1)+sumTo (fun k=>ch n (k+1)*a^(k+1)) (n+1):=by
   rw[←sumTo_mul,←sumTo_add]
   refine sumTo_congr _ (fun k _=>?_)
   show (ch n k+ch n (k+1))*a^(k+1)=_
   rw[Nat.add_mul,q119,Nat.mul_left_comm a,q120 a]
  have b:sumTo (fun k=>ch n k*a^k) (n+1+1)=1+sumTo (fun k=>ch n (k+1)*a^(k+1)) (n+1):=by
   rw[sumTo_shift]
   cases n<;>simp[ch]
  have c:sumTo (fun k=>ch n k*a^k) (n+1+1)=sumTo (fun k=>ch n k*a^k) (n+1):=by
   simp[sumTo,ch_over n (n+1) (by omega)]
  rw[q119,d,e,f]
  rw[c]at b
  rw[Nat.mul_add,Nat.mul_one,q120 a]
  omega
theorem prime_ch {p k:Nat}(h:IsPrime p)(h0:0<k)(d:k<p):p∣ch p k:=by
 obtain⟨k,rfl⟩:∃j,k=j+1:=⟨k - 1,by omega⟩
 obtain⟨n,rfl⟩:∃n,p=n+1:=⟨p - 1,by omega⟩
 have c:=ch_mul n k
 rcases h.dvd_mul (a:=k+1) (b:=ch (n+1) (k+1)) (c▸Nat.dvd_mul_right _ _)with h1|h1
 ·have:=Nat.le_of_dvd (by omega) h1
  omega
 exact h1
theorem sumTo_dvd {p:Nat} {f:Nat→Nat}:∀m,(∀k,k<m→p∣f k)→p∣sumTo f m
 |0,_=>Nat.dvd_zero p
 |m+1,h=>Nat.dvd_add (sumTo_dvd m (fun k a=>h k (by omega))) (h m (by omega))
theorem fermat {p:Nat}(h:IsPrime p):∀a,a^p%p=a%p
 |0=>by
  rw[Nat.zero_pow (by have:=h.1;omega)]
 |a+1=>by
  have b:=fermat h a
  obtain⟨n,rfl⟩:∃n,p=n+1:=⟨p - 1,by have:=h.1;omega⟩
  have c:(n+1)∣sumTo (fun k=>ch (n+1) (k+1)*a^(k+1)) n:=sumTo_dvd n (fun k d=>Nat.dvd_trans (prime_ch h (by omega) (by omega)) (Nat.dvd_mul_right _ _))
  have e:(a+1)^(n+1)=1+sumTo (fun k=>ch (n+1) (k+1)*a^(k+1)) n+a^(n+1):=by
   rw[binom,sumTo_shift]
   simp only[sumTo,ch_self]
   simp[ch]
   omega
  obtain⟨t,ht⟩:=c
  rw[e,ht]
  generalize a^(n+1)=X at*
  generalize n+1=q at*
  rw[show 1+q*t+X=1+X+q*t from by omega,Nat.add_mul_mod_self_left,Nat.add_mod,b,←Nat.add_mod,Nat.add_comm]
theorem fermat1 {p a:Nat}(h:IsPrime p)(c:¬p∣a):a^(p - 1)%p=1:=by
 have b:=fermat h a
 have j:=h.1
 obtain⟨n,rfl⟩:∃n,p=n+1:=⟨p - 1,by omega⟩
 have g:0<a:=by
  rcases q129 a with e|e
  ·subst e
   exact absurd (Nat.dvd_zero _) c
  exact e
 have f:0<a^n:=Nat.pow_pos g
 rw[q119]at b
 have i:a≤a^n*a:=Nat.le_mul_of_pos_left a f
 have d:(n+1)∣a^n*a - a:=(Nat.dvd_iff_mod_eq_zero).2 (Nat.sub_mod_eq_zero_of_mod_eq b)
 have e:a^n*a - a=a*(a^n - 1):=by rw[Nat.mul_sub,Nat.mul_one,q120 a]
 rw[e]at d
 rcases h.dvd_mul d with h1|h1
 ·exact absurd h1 c
 rw[Nat.add_sub_cancel]
 obtain⟨t,ht⟩:=h1
 have:a^n=1+(n+1)*t:=by omega
 rw[this,Nat.add_mul_mod_self_left]
 exact q112 (by omega)
end
theorem pow_gcd {r b:Nat}:∀(u v:Nat),b^u%r=1%r→b^v%r=1%r→b^(Nat.gcd u v)%r=1%r:=by
 intro u v
 induction u,v using Nat.gcd.induction with
 |H0 n=>
  intro _ h
  rwa [Nat.gcd_zero_left]
 |H1 m n hm ih=>
  intro h1 h2
  rw[Nat.gcd_rec]
  refine ih ?_ h1
  have e:b^n=(b^m)^(n / m)*b^(n%m):=by rw[←Nat.pow_mul,←Nat.pow_add,Nat.div_add_mod]
  rw[e,Nat.mul_mod,Nat.pow_mod,h1,←Nat.pow_mod,Nat.one_pow,←Nat.mul_mod,Nat.one_mul]at h2
  exact h2
theorem pock {r q m b:Nat}(d:IsPrime r)(a:IsPrime q)(h1:b^(m*q)%r=1%r)(h2:b^m%r≠1%r):q∣r - 1:=by
 apply Classical.byContradiction
 intro h
 have f:=a.coprime h
 have j:=d.1
 have c:(b^m)^q%r=1%r:=by rw[←Nat.pow_mul];exact h1
 have e:¬r∣b^m:=fun i=>by
  obtain⟨t,ht⟩:=i
  rw[ht,Nat.pow_mod,Nat.mul_mod_right,Nat.zero_pow (by have:=a.1;omega),Nat.zero_mod,q112 (by omega)]at c
  omega
 have g:(b^m)^(r - 1)%r=1%r:=by
  rw[fermat1 d e,q112 (by omega)]
 have:=pow_gcd q (r - 1) c g
 rw[f,Nat.pow_one]at this
 exact h2 this
def pm(n:Nat):Nat→Nat→Nat→Nat
 |0,_,_=>1%n
 |f+1,b,e=>if e%2=1 then b*pm n f (b*b%n) (e / 2)%n else pm n f (b*b%n) (e / 2)
theorem pm_eq {n:Nat}:∀(f b e:Nat),e<2^f→pm n f b e=b^e%n
 |0,b,e,h=>by
  have:e=0:=by simpa using h
  subst this
  rfl
 |f+1,b,e,h=>by
  have d:e / 2<2^f:=by rw[q119]at h;omega
  have c:(b*b%n)^(e / 2)%n=b^(2*(e / 2))%n:=by rw[←Nat.pow_mod,←Nat.pow_two,←Nat.pow_mul]
  simp only[pm,pm_eq f _ _ d]
  by_cases a:e%2=1
  ·rw[if_pos a,c,Nat.mul_mod,Nat.mod_mod,←Nat.mul_mod,q120 b,←q119]
   congr 2
   omega
  rw[if_neg a,c]
  congr 2
  omega
def wit(N q b f:Nat):Bool:=decide ((N - 1)%q=0) && decide (N - 1<2^f) && decide (pm N f b (N - 1)=1) && decide (Nat.gcd (pm N f b ((N - 1) / q)+(N - 1)) N=1)
theorem wit_dvd {N q b f r:Nat}(p:2≤N)(h:wit N q b f=true)(i:IsPrime q)(e:IsPrime r)(a:r∣N):q∣r - 1:=by
 unfold wit at h
 simp only[Bool.and_eq_true,decide_eq_true_eq]at h
 obtain⟨⟨⟨h1,h2⟩,c⟩,d⟩:=h
 have l:(N - 1) / q≤N - 1:=Nat.div_le_self _ _
 rw[pm_eq _ _ _ h2]at c
 rw[pm_eq _ _ _ (by omega)]at d
 have g:(N - 1) / q*q=N - 1:=Nat.div_mul_cancel (Nat.dvd_of_mod_eq_zero h1)
 have n:=e.1
 refine pock (m:=(N - 1) / q) (b:=b) e i ?_ ?_
 ·rw[g]
  obtain⟨t,ht⟩:=a
  have:b^(N - 1)%N%r=1%r:=by rw[c]
  rwa [Nat.mod_mod_of_dvd _ ⟨t,ht⟩]at this
 intro k
 have j:r∣b^((N - 1) / q)%N+(N - 1):=by
  apply Nat.dvd_of_mod_eq_zero
  rw[Nat.add_mod,Nat.mod_mod_of_dvd _ a,k,←Nat.add_mod]
  have:1+(N - 1)=N:=by omega
  rw[this]
  exact Nat.mod_eq_zero_of_dvd a
 have:=Nat.dvd_gcd j a
 rw[d]at this
 have:=Nat.le_of_dvd (by omega) this
 omega
theorem prime_by1 {N q b f:Nat}(a:2≤N)(e:IsPrime q)(h:wit N q b f=true)(d:N<(q+1)*(q+1)):IsPrime N:=by
 refine prime_of_roots a (fun r c g=>?_)
 have h1:=wit_dvd a h e c g
 have i:=c.1
 have:=Nat.le_of_dvd (by omega) h1
 exact q109 d (Nat.mul_le_mul (by omega) (by omega))
theorem prime_by2 {N q s b c f:Nat}(g:2≤N)(d:IsPrime q)(j:IsPrime s)(l:q≠s)(h:wit N q b f=true)(n:wit N s c f=true)(k:N<(q*s+1)*(q*s+1)):IsPrime N:=by
 refine prime_of_roots g (fun r i a=>?_)
 have h1:=wit_dvd g h d i a
 have h2:=wit_dvd g n j i a
 have p:=i.1
 have m:Nat.Coprime q s:=d.coprime (fun a=>by
  rcases j.2 q a with e|e
  ·have:=d.1;omega
  exact l e)
 have:=Nat.le_of_dvd (by omega) (m.mul_dvd_of_dvd_of_dvd h1 h2)
 exact q109 k (Nat.mul_le_mul (by omega) (by omega))
def small(n m:Nat):Bool:=(List.range m).all fun d=>decide (n%(d+2)≠0)
theorem zdq {n m:Nat}(b:2≤n)(h:small n m=true)(a:n<(m+2)*(m+2)):IsPrime n:=by
 refine prime_of_roots b (fun r d c=>?_)
 have e:=d.1
 rcases q108 r (m+2)with h1|h1
 ·unfold small at h
  rw[List.all_eq_true]at h
  have:=h (r - 2) (by rw[List.mem_range];omega)
  simp only[decide_eq_true_eq]at this
  rw[show r - 2+2=r from by omega]at this
  exact absurd (Nat.mod_eq_zero_of_dvd c) this
 exact q109 a (Nat.mul_le_mul h1 h1)
theorem prime_127:IsPrime 127:=zdq (m:=10) (by decide) (by decide+kernel) (by decide)
theorem prime_4153:IsPrime 4153:=zdq (m:=63) (by decide) (by decide+kernel) (by decide)
theorem prime_430751:IsPrime 430751:=zdq (m:=655) (by decide) (by decide+kernel) (by decide)
theorem prime_569003:IsPrime 569003:=zdq (m:=753) (by decide) (by decide+kernel) (by decide)
theorem prime_8574133:IsPrime 8574133:=zdq (m:=2927) (by decide) (by decide+kernel) (by decide)
theorem prime_a:IsPrime 2773320623:=prime_by1 (q:=569003) (b:=5) (f:=32) (by decide) prime_569003 (by decide+kernel) (by decide)
theorem prime_b:IsPrime 72106336199:=prime_by1 (q:=2773320623) (b:=2) (f:=37) (by decide) prime_a (by decide+kernel) (by decide)
theorem prime_c:IsPrime 1919519569386763:=prime_by2 (q:=8574133) (s:=127) (b:=2) (c:=2) (f:=51) (by decide) prime_8574133 prime_127 (by decide) (by decide+kernel) (by decide+kernel) (by decide)
theorem prime_d:IsPrime 31757755568855353:=prime_by2 (q:=430751) (s:=4153) (b:=2) (c:=2) (f:=55) (by decide) prime_430751 prime_4153 (by decide) (by decide+kernel) (by decide+kernel) (by decide)
theorem prime_e:IsPrime 75445702479781427272750846543864801:=prime_by2 (q:=1919519569386763) (s:=72106336199) (b:=2) (c:=2) (f:=116) (by decide) prime_c prime_b (by decide) (by decide+kernel) (by decide+kernel) (by decide)
theorem prime_f:IsPrime 74058212732561358302231226437062788676166966415465897661863160754340907:=prime_by2 (q:=75445702479781427272750846543864801) (s:=31757755568855353) (b:=2) (c:=2) (f:=236) (by decide) prime_e prime_d (by decide) (by decide+kernel) (by decide+kernel) (by decide)
theorem prime_p:IsPrime 57896044618658097711785492504343953926634992332820282019728792003956564819949:=prime_by1 (q:=74058212732561358302231226437062788676166966415465897661863160754340907) (b:=2) (f:=255) (by decide) prime_f (by decide+kernel) (by decide)
theorem prime_pN:IsPrime pN:=prime_p
theorem p_domain {x y:Int}(h:pP∣x*y):pP∣x∨pP∣y:=by
 rw[pP_nat]at*
 have h1:=Int.natAbs_dvd_natAbs.2 h
 rw[Int.natAbs_mul,Int.natAbs_natCast]at h1
 rcases prime_pN.dvd_mul h1 with h2|h2
 ·exact Or.inl (Int.natAbs_dvd_natAbs.1 (by rw[Int.natAbs_natCast];exact h2))
 exact Or.inr (Int.natAbs_dvd_natAbs.1 (by rw[Int.natAbs_natCast];exact h2))
def Cong(x y:Int):Prop:=pP∣x - y
theorem Cong.refl(x:Int):Cong x x:=by unfold Cong;rw[Int.sub_self];exact Int.dvd_zero _
theorem Cong.symm {x y:Int}(h:Cong x y):Cong y x:=by
 obtain⟨q,a⟩:=h
 exact⟨-q,by grind⟩
theorem Cong.trans {x y z:Int}(h:Cong x y)(g:Cong y z):Cong x z:=by
 obtain⟨q,a⟩:=h
 obtain⟨r,b⟩:=g
 exact⟨q+r,by grind⟩
theorem Cong.mul {x y u v:Int}(h:Cong x y)(g:Cong u v):Cong (x*u) (y*v):=by
 obtain⟨q,a⟩:=h
 obtain⟨r,b⟩:=g
 exact⟨q*u+y*r,by
  have:x=y+pP*q:=by grind
  have:u=v+pP*r:=by grind
  subst x
  subst u
  grind⟩
theorem Cong.pow {x y:Int}(h:Cong x y):∀n:Nat,Cong (x^n) (y^n)
 |0=>by
  rw[Int.pow_zero,Int.pow_zero]
  exact Cong.refl _
 |n+1=>by
  rw[q114,q114]
  exact(Cong.pow h n).mul h
theorem cong_iff {x y:Int}:Cong x y↔x%pP=y%pP:=by
 constructor
 ·intro h
  exact Int.emod_eq_emod_iff_emod_sub_eq_zero.2 (Int.emod_eq_zero_of_dvd h)
 intro h
 exact Int.dvd_of_emod_eq_zero (Int.emod_eq_emod_iff_emod_sub_eq_zero.1 h)
theorem cong_mod(x:Int):Cong (x%pP) x:=by
 rw[cong_iff,Int.emod_emod]
theorem p_fermat {x:Int}(h:¬pP∣x):Cong (x^(pN - 1)) 1:=by
 have i:(0:Int)<pP:=by decide+kernel
 have h0:=Int.emod_nonneg x (show pP≠0 by omega)
 obtain⟨a,b⟩:=Int.eq_ofNat_of_zero_le h0
 have j:¬pN∣a:=fun g=>h (by
  apply Int.dvd_of_emod_eq_zero
  have c:=Int.emod_lt_of_pos x i
  rw[b]at c⊢
  obtain⟨t,ht⟩:=g
  rw[pP_nat]at c
  have:a<pN:=by omega
  have d:t=0:=by
   rcases q129 t with e|e
   ·exact e
   have:=Nat.le_mul_of_pos_right pN e
   omega
  subst d
  rw[ht]
  simp)
 have f:=fermat1 prime_pN j
 have h1:Cong ((a:Int)^(pN - 1)) 1:=by
  rw[cong_iff,pP_nat,←Int.natCast_pow]
  have:(1:Int)%(pN:Int)=((1%pN:Nat):Int):=by rw[Int.natCast_emod];rfl
  rw[this,←Int.natCast_emod,f]
  rfl
 have h2:=(cong_mod x).pow (pN - 1)
 rw[b]at h2
 exact h2.symm.trans h1
end Go.Proofs.YtgnfdonbholcdaaDoor


